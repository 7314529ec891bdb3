import PyProof.Rows.All
import Wide.All
import OpenK.AllK
import Wide.FinOn
import Lean
import PyProof.EqAt
import PyProof.EqKinds
import PyProof.TupleCall
import PySem.Challenge.RW_tickbook_k30_whole_ahead
noncomputable section
set_option Elab.async false
set_option linter.all false
set_option maxRecDepth 100000
section
namespace L2
open PySem PySem.Spec PyProof.Rows
abbrev Key:=Sum Int Str
noncomputable def QB:Key->Value->Bool
 | .inl k,v=>Value.isInt k v
 | .inr x,v=>Value.isStrOf x v
noncomputable def keyH(w:World):Key->Int
 | .inl k=>hashInt k
 | .inr x=>hashStr w x
theorem Yj:∀{k:Key} {v:Value},QB k v=true->(∃i t,k=Sum.inl i/\v=Value.int i t)\/(∃x t,k=Sum.inr x/\v=Value.str x t)
 | .inl i,v,h=>by
  obtain⟨t,e⟩:=Value.isInt_shape (k:=i) (v:=v) h;exact .inl ⟨i,t,rfl,e⟩
 | .inr x,v,h=>by
  obtain⟨t,e⟩:=Value.isStrOf_shape (x:=x) (v:=v) h;exact .inr ⟨x,t,rfl,e⟩
theorem keyIs_int(i:Int)(t:Tok):QB (.inl i) (.int i t)=true:=by simp[QB,Value.isInt]
theorem keyIs_str(x:Str)(t:Tok):QB (.inr x) (.str x t)=true:=by simp[QB,Value.isStrOf]
theorem key_ll(a b:Int):decide ((Sum.inl a:Key)=Sum.inl b)=(a==b):=by
 by_cases e:a=b
 ·subst e;simp
 ·have h: ¬(Sum.inl a:Key)=Sum.inl b:=λq=>e (Sum.inl.inj q);rw[decide_eq_false h];exact(beq_eq_false_iff_ne.mpr e).symm
theorem key_rr(a b:Str):decide ((Sum.inr a:Key)=Sum.inr b)=decide (a=b):=by
 by_cases e:a=b
 ·subst e;simp
 ·have h: ¬(Sum.inr a:Key)=Sum.inr b:=λq=>e (Sum.inr.inj q);rw[decide_eq_false h,decide_eq_false e]
theorem key_lr(a:Int)(b:Str):decide ((Sum.inl a:Key)=Sum.inr b)=false:=decide_eq_false (λq=>nomatch q)
theorem key_rl(a:Str)(b:Int):decide ((Sum.inr a:Key)=Sum.inl b)=false:=decide_eq_false (λq=>nomatch q)
noncomputable def ZO(prog:Program)(w:World):PySem.KeyKind prog w Key where
 is:=QB
 hash:=keyH w
 inj:=λv a b ha hb=>by
  rcases Yj ha with ⟨i,t,rfl,rfl⟩|⟨x,t,rfl,rfl⟩
  ·rcases Yj hb with ⟨j,u,rfl,e⟩|⟨y,u,rfl,e⟩
   ·injection e with e1 _;rw[e1]
   ·exact nomatch e
  ·rcases Yj hb with ⟨j,u,rfl,e⟩|⟨y,u,rfl,e⟩
   ·exact nomatch e
   ·injection e with e1 _;rw[e1]
 byValue:=λk v h=>by
  rcases Yj h with ⟨i,t,rfl,rfl⟩|⟨x,t,rfl,rfl⟩<;>rfl
 pyHash:=λhv h=>by
  rcases Yj hv with ⟨i,t,rfl,rfl⟩|⟨x,t,rfl,rfl⟩
  ·exact wpAny_pyHash_int h
  ·exact wpAny_pyHash_str h
 eqBool:=λhu hv h=>by
  rcases Yj hu with ⟨i,t,rfl,rfl⟩|⟨x,t,rfl,rfl⟩
  ·rcases Yj hv with ⟨j,u,rfl,rfl⟩|⟨y,u,rfl,rfl⟩
   ·rw[key_ll] at h;exact wpAny_eqBool_int h
   ·rw[key_lr] at h;exact SeqAt.EqAt.int_str i t y u _ _ _ _ h
  ·rcases Yj hv with ⟨j,u,rfl,rfl⟩|⟨y,u,rfl,rfl⟩
   ·rw[key_rl] at h;exact SeqAt.EqAt.str_int x t j u _ _ _ _ h
   ·rw[key_rr] at h;exact wpAny_eqBool_str h
 «strs»:=λk x t v h=>by
  rcases Yj h with ⟨i,u,rfl,e⟩|⟨y,u,rfl,e⟩
  ·exact nomatch e
  ·injection e with e1 _
   subst e1;cases v<;>rfl
theorem mixKind_int(prog:Program)(w:World)(i:Int)(t:Tok):(ZO prog w).is (.inl i) (.int i t)=true:=keyIs_int i t
theorem mixKind_str(prog:Program)(w:World)(x:Str)(t:Tok):(ZO prog w).is (.inr x) (.str x t)=true:=keyIs_str x t
end L2
namespace L2
open PySem PySem.Spec PyProof.Rows
inductive V where
 |non|bl (b:Bool)|int (i:Int)|str (x:Str)|byt (b:Array UInt8)|flt (b:UInt64)|ref (a:Addr)|ty (n:String)
 deriving DecidableEq
def RelV:V->Value->Prop
 | .non,u=>u=Value.none
 | .bl b,u=>u=Value.bool b
 | .int i,u=>∃t,u=Value.int i t
 | .str x,u=>∃t,u=Value.str x t
 | .byt b,u=>∃t,u=Value.bytes b t
 | .flt b,u=>∃t,u=Value.float b t
 | .ref a,u=>u=Value.ref a
 | .ty n,u=>u=Value.type n
abbrev Vals:List V->List Value->Prop:=Paired RelV
theorem Vals.length{xs:List V}{us:List Value}(r:Vals xs us):xs.length=us.length:=Paired.length r
theorem Vals.get:∀{xs:List V} {us:List Value} {i:Nat} {x:V},Vals xs us->xs[i]?=some x->∃u,us[i]?=some u/\RelV x u
 |_,_,_,_,.nil,e=>by simp at e
 |_,_,0,_,.cons r _,e=>by simp at e;subst e;exact⟨_,rfl,r⟩
 |_,_,i+1,x,.cons _ t,e=>by
  obtain⟨u,h1,h2⟩:=Vals.get (i:=i) (x:=x) t (by simpa using e);exact⟨u,by simpa using h1,h2⟩
theorem Vals.append:∀{xs ys:List V} {us ws:List Value},Vals xs us->Vals ys ws->Vals (xs++ys) (us++ws)
 |_,_,_,_,.nil,s=>s
 |_,_,_,_,.cons r t,s=>.cons r (Vals.append t s)
theorem Vals.take:∀{xs:List V} {us:List Value} (n:Nat),Vals xs us->Vals (xs.take n) (us.take n)
 |_,_,0,_=>.nil
 |_,_,_+1,.nil=>.nil
 |_,_,n+1,.cons r t=>.cons r (Vals.take n t)
theorem Vals.drop:∀{xs:List V} {us:List Value} (n:Nat),Vals xs us->Vals (xs.drop n) (us.drop n)
 |_,_,0,r=>r
 |_,_,_+1,.nil=>.nil
 |_,_,n+1,.cons _ t=>Vals.drop n t
def RelO:Option V->Option Value->Prop
 |some v,some u=>RelV v u
 |none,none=>True
 |_,_=>False
def KV{κ:Type}:List (κ×V)->List (κ×Value)->Prop:=Paired λ(p:κ×V) (q:κ×Value)=>p.1=q.1/\RelV p.2 q.2
noncomputable def kV:Key->V
 | .inl i=>.int i
 | .inr x=>.str x
inductive HO where
 |lst (xs:List V)
 |tup (xs:List V)
 |dK (kvs:List (Key×V))|dT (kvs:List (List Key×V))
 |set (S:Int->Bool) (n:Nat)
 |ins (C dx:Addr) (fs:List (Str×V))
 |own (x:Addr)
 |xd (fs:List (Str×V))
 |met (f x:Addr)
 |rng (lo hi:Int)
 |frz (o:Obj) (u:HO)
 |tbl (ps:Array Value)
 |ext (φ:Heap->Prop)
abbrev Hp:=Addr->Option HO
noncomputable def upd(H:Hp)(a:Addr)(o:HO):Hp:=λb=>if b=a then some o else H b
theorem Zb{H:Hp}{a:Addr}{o:HO}:upd H a o a=some o:=by unfold upd;rw[if_pos rfl]
theorem Zc{H:Hp}{a b:Addr}{o:HO}(h:b≠a):upd H a o b=H b:=by unfold upd;rw[if_neg h]
theorem upd_upd{H:Hp}{a:Addr}{o u:HO}:upd (upd H a o) a u=upd H a u:=by
 funext b;unfold upd;split<;>rfl
theorem ne_of{H:Hp}{a b:Addr}{o u:HO}(h:H a=some o)(h':H b=some u)(d:o≠u):a≠b:=by
 intro e;subst e;rw[h] at h';exact d (Option.some.inj h')
theorem Zt{H:Hp}{a b:Addr}{o:HO}(h:H a=some o)(h':H b=none):a≠b:=by
 intro e;subst e;rw[h] at h';cases h'
section
variable (P:Program)(w:World)
def ObjOk(H:Hp)(h:Heap)(a:Addr):HO->Prop
 | .lst xs=>xs.length<=sizeLine/\∃(its:List Value) (n:Nat),Vals xs its/\h.get? a=some {cls:=.type "list",data:=.seq its.toArray n}
 | .tup xs=>xs.length<=sizeLine/\∃its:List Value,Vals xs its/\IsTup h a its.toArray
 | .dK kvs=>kvs.length<=sizeLine/\(a==sysModules)=false/\∃vs,KV kvs vs/\h.DictOf (ZO P w) a vs
 | .dT kvs=>kvs.length<=sizeLine/\(a==sysModules)=false/\∃xs:List (List Key×Addr×Value),
   Paired (λ(p:List Key×V) (q:List Key×Addr×Value)=>p.1=q.1/\H q.2.1=some (.tup (p.1.map kV))/\RelV p.2 q.2.2) kvs xs/\
   ∃o es ep,h.get? a=some o/\o.ExactDict/\o.data= .dict es ep/\es.toList=xs.map (entryOfKey (tupleKind (ZO P w)))/\(xs.map (·.1)).Nodup
 | .set S n=>h.SetOf (intKind P w) a S n
 | .ins C dx fs=>H dx=some (.own a)/\fs.length<=1000/\dx≠a/\h.get? a=some (W.instObj C dx)/\
   ∃mA,h.Ns1 dx mA/\(∀f,RelO (fs.lookup f) (mA f))/\PySem.Within mA (fs.map (·.1))
 | .own _=>∃o,h.get? a=some o
 | .xd fs=>∃mA,h.Ns1 a mA/\∀f,RelO (fs.lookup f) (mA f)
 | .rng lo hi=>∃t u v,h.get? a=some {cls:=.type "range",data:=.fields #[.int lo t,.int hi u,.int 1 v]}
 | .frz o u=>h.get? a=some o/\ObjOk H h a u
 | .tbl ps=>h.get? a=some {cls:=.none,data:=.fields ps}
 | .met f x=>h.get? a=some (W.methodObj (.ref f) (.ref x))
 | .ext φ=>φ h/\(∃o,h.get? a=some o)/\∀h1 h2:Heap,φ h1->(∀o,h1.get? a=some o->h2.get? a=some o)->φ h2
def HOk(H:Hp)(h:Heap):Prop:=∀a o,H a=some o->ObjOk P w H h a o
end
section
variable {P:Program}{w:World}{H H':Hp}{h h':Heap}{a:Addr}{o:HO}
theorem ObjOk.lt(x:ObjOk P w H h a o):a<h.objs.size:=by
 cases o with
 |lst xs=>obtain⟨_,_,_,_,e⟩:=x;exact Heap.lt_size e
 |tup xs=>obtain⟨_,_,_,p⟩:=x;exact p.lt
 |dK kvs=>obtain⟨_,_,_,_,o,_,_,e,_⟩:=x;exact Heap.lt_size e
 |dT kvs=>obtain⟨_,_,_,_,o,_,_,e,_⟩:=x;exact Heap.lt_size e
 |set S n=>obtain⟨o,_,_,_,e,_⟩:=x;exact Heap.lt_size e
 |ins C dx fs=>obtain⟨_,_,_,e,_⟩:=x;exact Heap.lt_size e
 |own y=>obtain⟨_,e⟩:=x;exact Heap.lt_size e
 |xd fs=>obtain⟨_,⟨_,_,_,e,_⟩,_⟩:=x;exact Heap.lt_size e
 |rng lo hi=>obtain⟨_,_,_,e⟩:=x;exact Heap.lt_size e
 |frz ob u=>obtain⟨e,_⟩:=x;exact Heap.lt_size e
 |tbl ps=>exact Heap.lt_size (show h.get? a=some _ from x)
 |met f y=>exact Heap.lt_size (show h.get? a=some _ from x)
 |ext φ=>obtain⟨_,⟨_,e⟩,_⟩:=x;exact Heap.lt_size e
theorem Paired.mapP{α β:Type}{F G:α->β->Prop}:∀{l₁:List α} {l₂:List β},Paired F l₁ l₂->(∀a b,F a b->G a b)->Paired G l₁ l₂
 |_,_,.nil,_=>.nil
 |_,_,.cons r t,f=>.cons (f _ _ r) (Paired.mapP t f)
theorem ObjOk.stay(x:ObjOk P w H h a o)(k:∀b u,(b=a\/H b=some (.own a))->h.get? b=some u->h'.get? b=some u)
 (ho:∀b,H b=some (.own a)->H' b=some (.own a))(ht:∀b xs,H b=some (.tup xs)->H' b=some (.tup xs)):ObjOk P w H' h' a o:=by
 induction o with
 |lst xs=>obtain⟨z,its,n,r,e⟩:=x;exact⟨z,its,n,r,k _ _ (.inl rfl) e⟩
 |tup xs=>obtain⟨z,its,r,ob,e,c⟩:=x;exact⟨z,its,r,ob,k _ _ (.inl rfl) e,c⟩
 |dK kvs=>obtain⟨z,y,vs,r,ob,es,ep,e,c⟩:=x;exact⟨z,y,vs,r,ob,es,ep,k _ _ (.inl rfl) e,c⟩
 |dT kvs=>
  obtain⟨z,y,xs,r,ob,es,ep,e,c⟩:=x;exact⟨z,y,xs,Paired.mapP r λp q z=>⟨z.1,ht _ _ z.2.1,z.2.2⟩,ob,es,ep,k _ _ (.inl rfl) e,c⟩
 |set S n=>obtain⟨ob,es,ep,t,e,c⟩:=x;exact⟨ob,es,ep,t,k _ _ (.inl rfl) e,c⟩
 |ins C dx fs=>
  obtain⟨d,z,ne,e,mA,⟨od,es,ep,e2,c⟩,r⟩:=x;exact⟨ho _ d,z,ne,k _ _ (.inl rfl) e,mA,⟨od,es,ep,k _ _ (.inr d) e2,c⟩,r⟩
 |own y=>obtain⟨ob,e⟩:=x;exact⟨ob,k _ _ (.inl rfl) e⟩
 |xd fs=>obtain⟨mA,⟨od,es,ep,e,c⟩,r⟩:=x;exact⟨mA,⟨od,es,ep,k _ _ (.inl rfl) e,c⟩,r⟩
 |rng lo hi=>obtain⟨t,u,v,e⟩:=x;exact⟨t,u,v,k _ _ (.inl rfl) e⟩
 |frz ob u ih=>obtain⟨e,q⟩:=x;exact⟨k _ _ (.inl rfl) e,ih q⟩
 |tbl ps=>
  have e:h.get? a=some {cls:=.none,data:=.fields ps}:=x;show h'.get? a=some {cls:=.none,data:=.fields ps};exact k a _ (.inl rfl) e
 |met f y=>
  have e:h.get? a=some (W.methodObj (.ref f) (.ref y)):=x;show h'.get? a=some (W.methodObj (.ref f) (.ref y));exact k a _ (.inl rfl) e
 |ext φ=>obtain⟨p,⟨o,e⟩,st⟩:=x;exact⟨st _ _ p λo q=>k _ _ (.inl rfl) q,⟨o,k _ _ (.inl rfl) e⟩,st⟩
theorem HOk.lt(x:HOk P w H h)(e:H a=some o):a<h.objs.size:=(x a o e).lt
theorem HOk.fresh(x:HOk P w H h)(e:h.objs.size<=a):H a=none:=by
 cases q:H a with
 |none=>rfl
 |some u=>exact absurd (Nat.lt_of_lt_of_le (x.lt q) e) (Nat.lt_irrefl _)
theorem HOk.kept(x:HOk P w H h)(k:∀b u,h.get? b=some u->h'.get? b=some u):HOk P w H h':=λa o e=>
 (x a o e).stay (λb u _ q=>k b u q) (λ_ q=>q) λ_ _ q=>q
theorem HOk.laid(x:HOk P w H h)(k:∀b u,h.get? b=some u->h'.get? b=some u)(hp:h.objs.size<=a)(new:ObjOk P w (upd H a o) h' a o):HOk P w (upd H a o) h':=λb u e=>by
 have hn:=x.fresh hp;by_cases hb:b=a
 ·subst hb;rw[Zb] at e;cases e;exact new
 ·rw[Zc hb] at e;exact(x b u e).stay (λc v _ q=>k c v q) (λc q=>by rw[Zc (Zt q hn)];exact q) λc xs q=>by rw[Zc (Zt q hn)];exact q
end
def Rd(H:Hp)(a:Addr)(u:HO):Prop:=H a=some u\/∃o,H a=some (.frz o u)
theorem Rd.ok{P:Program}{w:World}{H:Hp}{h:Heap}{a:Addr}{u:HO}(r:Rd H a u)(x:HOk P w H h):ObjOk P w H h a u:=by
 rcases r with r|⟨o,r⟩
 ·exact x a u r
 ·obtain⟨_,q⟩:=x a _ r;exact q
def Mut:Option HO->Prop
 |some (.lst _)=>True
 |some (.dK _)=>True
 |some (.dT _)=>True
 |some (.set _ _)=>True
 |some (.ins _ _ _)=>True
 |some (.ext _)=>True
 |_=>False
section
variable {P:Program}{w:World}{H:Hp}{h h':Heap}{x e:Addr}{o':HO}
theorem HOk.write(ok:HOk P w H h)(mu:Mut (H x))(he:e=x\/H e=some (.own x))(k:∀b u,b≠e->h.get? b=some u->h'.get? b=some u)(heo:∃u,h'.get? e=some u)
 (new:ObjOk P w (upd H x o') h' x o'):HOk P w (upd H x o') h':=λb u q=>by
 have nown:∀c y,H c=some (.own y)->c≠x:=λc y r z=>by subst z;rw[r] at mu;exact mu
 have ntup:∀c xs,H c=some (.tup xs)->c≠x:=λc xs r z=>by subst z;rw[r] at mu;exact mu
 by_cases hb:b=x
 ·subst hb;rw[Zb] at q;cases q;exact new
 ·rw[Zc hb] at q;by_cases hbe:b=e
  ·have q':H b=some (.own x):=by
    rcases he with z|z
    ·exact absurd (hbe.trans z) hb
    ·rw[hbe];exact z
   rw[q] at q';cases q';obtain⟨v,hv⟩:=heo;exact⟨v,by rw[hbe];exact hv⟩
  ·refine(ok b u q).stay (λc v hc r=>k c v ?_ r) (λc r=>by rw[Zc (nown c b r)];exact r) λc xs r=>by rw[Zc (ntup c xs r)];exact r
   rcases hc with rfl|hc
   ·exact hbe
   ·rintro rfl;rcases he with z|z
    ·exact nown c b hc z
    ·rw[hc] at z;cases z;exact hb rfl
end
structure Un(fs ex:List Addr)(H H':Hp)(h h':Heap):Prop where
 keep:∀b o,h.get? b=some o->H b=none->b∉fs->b∉ex->h'.get? b=some o
 slot:∀b o,h.get? b=some o->H b=none->b∈fs->b∉ex->∃sl,h'.get? b=some {o with slots:=sl}
 free:∀b o,h.get? b=some o->H b=none->b∉ex->H' b=none
 there:∀b o,h.get? b=some o->b∉ex->∃o',h'.get? b=some o'
 tups:∀b xs,H b=some (.tup xs)->H' b=some (.tup xs)
 frzs:∀b o u,H b=some (.frz o u)->H' b=some (.frz o u)
 tbls:∀b ps,H b=some (.tbl ps)->∃more,H' b=some (.tbl (ps++more))
section
variable {fs fs' ex ex':List Addr}{H H1 H2:Hp}{h h1 h2 h':Heap}{a x e:Addr}{o:HO}
theorem Un.any(u:Un fs ex H H1 h h1){b:Addr}{ob:Obj}(q:h.get? b=some ob)(n:H b=none)(hx:b∉ex):∃sl,h1.get? b=some {ob with slots:=sl}:=by
 by_cases hb:b∈fs
 ·exact u.slot b ob q n hb hx
 ·exact⟨ob.slots,u.keep b ob q n hb hx⟩
theorem Un.kept(k:∀b u,h.get? b=some u->h'.get? b=some u):Un fs ex H H h h':=
 ⟨λb ob q _ _ _=>k b ob q,λb ob q _ _ _=>⟨ob.slots,k b ob q⟩,λ_ _ _ n _=>n,λb ob q _=>⟨ob,k b ob q⟩,λ_ _ q=>q,λ_ _ _ q=>q,λ_ ps q=>⟨#[],by rw[q];simp⟩⟩
theorem Un.refl:Un fs ex H H h h:=Un.kept λ_ _ q=>q
theorem Un.laid(k:∀b u,h.get? b=some u->h'.get? b=some u)(hp:h.objs.size<=a)(hn:H a=none):Un fs ex H (upd H a o) h h' where
 keep:=λb u q _ _ _=>k b u q
 slot:=λb u q _ _ _=>⟨u.slots,k b u q⟩
 free:=λb u q n _=>by rw[Zc (Nat.ne_of_lt (Nat.lt_of_lt_of_le (Heap.lt_size q) hp))];exact n
 there:=λb u q _=>⟨u,k b u q⟩
 tups:=λb xs q=>by rw[Zc (Zt q hn)];exact q
 frzs:=λb u xs q=>by rw[Zc (Zt q hn)];exact q
 tbls:=λb ps q=>⟨#[],by rw[Zc (Zt q hn),q];simp⟩
theorem Un.write(mu:Mut (H x))(he:e=x\/H e=some (.own x))(k:∀b u,b≠e->h.get? b=some u->h'.get? b=some u)(heo:∃u,h'.get? e=some u):Un fs ex H (upd H x o) h h':=by
 have hx:∀b,H b=none->b≠x:=λb n z=>by subst z;rw[n] at mu;exact mu
 have hb:∀b,H b=none->b≠e:=λb n z=>by
  subst z;rcases he with r|r
  ·exact hx b n r
  ·rw[n] at r;cases r
 have hm:∀b u,H b=some u-> ¬Mut (some u)->b≠x:=λb u q nm z=>by subst z;rw[q] at mu;exact nm mu
 refine⟨λb u q n _ _=>k b u (hb b n) q,λb u q n _ _=>⟨u.slots,k b u (hb b n) q⟩,λb u q n _=>by rw[Zc (hx b n)];exact n,λb u q _=>?_,
  λb xs q=>by rw[Zc (hm b _ q λz=>z)];exact q,λb u xs q=>by rw[Zc (hm b _ q λz=>z)];exact q,λb ps q=>⟨#[],by rw[Zc (hm b _ q λz=>z),q];simp⟩⟩
 by_cases hbe:b=e
 ·subst hbe;exact heo
 ·exact⟨u,k b u hbe q⟩
end
noncomputable def trk(h:Heap)(H:Hp):List Addr:=(List.range h.objs.size).filter λa=>(H a).isSome
noncomputable def hidT(h:Heap)(H:Hp):Heap:=W.hideAll h (trk h H)
theorem hidT_size(h:Heap)(H:Hp):(hidT h H).objs.size=h.objs.size:=W.hideAll_size _ _
theorem hidT_get{h:Heap}{H:Hp}{b:Addr}{o:Obj}(e:h.get? b=some o)(n:H b=none):(hidT h H).get? b=some o:=
 W.hideAll_get _ e λhm=>by
  have q:(H b).isSome=true:=(List.mem_filter.mp hm).2;rw[n] at q;simp at q
theorem of_hidT{h:Heap}{H:Hp}{b:Addr}{o:Obj}(e:(hidT h H).get? b=some o):h.get? b=some o/\H b=none:=by
 have e':h.get? b=some o:=W.of_hideAll (trk h H) e;refine⟨e',?_⟩;cases q:H b with
 |none=>rfl
 |some x=>
  have hm:b∈trk h H:=List.mem_filter.mpr ⟨List.mem_range.mpr (Heap.lt_size e'),by simp[q]⟩;have z:(hidT h H).get? b=none:=W.hideAll_none (trk h H) hm;rw[z] at e;cases e
end L2
namespace L2
open PySem PySem.Spec PyProof.Rows
structure Mod(K:W.Frag)(mg:Str->Option Value)(base:Heap):Prop where
 kin:K.In base
 glob:base.Ns mainGlobals mg
 blt:∃mb,base.Ns builtinsNs mb/\∀x:Str,x≠"__name__"->mb x=bootBuiltins x
 nolimit:base.NoLimit
structure Cx where
 prog:Program
 w:World
 K:W.Frag
 mg:Str->Option Value
 base:Heap
 A:Around
 N:List Str
 s₀:Shared
 H₀:Hp
 env:Env
 outer:List Env
 stack:List Env
 ex:List Addr
 fn:Str->Bool
 calm:Bool
 pn:List (Addr×Obj)
 xe:Value->Shared->Prop
noncomputable def frs(l:List Env):List Addr:=l.filterMap (·.frame)
abbrev Cx.fs(X:Cx):List Addr:=frs X.outer
def Vis(sc:Scope)(x:Str):Prop:=sc.names.lookup x=some .local\/sc.names.lookup x=some .cell\/sc.names.lookup x=some .free
def Loc(sc:Scope)(x:Str):Prop:=sc.names.lookup x=some .local\/sc.names.lookup x=some .cell
def Look(env:Env)(h:Heap)(m:Str->Option Value)(x:Str)(u:Value):Prop:=
 (env.kindOf x=some .local/\m x=some u)\/((env.kindOf x=some .cell\/env.kindOf x=some .free)/\∃c,env.cells.lookup x=some c/\h.IsCell c (some u))
structure Cx.Ok(X:Cx):Prop where
 mod:Mod X.K X.mg X.base
 kind:X.env.scope.kind= .function
 glob:X.env.globals=mainGlobals
 blt:X.env.builtins=builtinsNs
 above:X.s₀.heap.objs.size<=X.env.locals
 inj:∀x y c,X.env.cells.lookup x=some c->X.env.cells.lookup y=some c->x=y
 has:∀x,(X.env.kindOf x=some .cell\/X.env.kindOf x=some .free)->∃c,X.env.cells.lookup x=some c
 cab:∀x c,X.fn x=true->X.env.cells.lookup x=some c->X.s₀.heap.objs.size<=c
 hd:X.calm=true->X.A.handled=none
 frames:X.A.frames=some X.stack
 stk:X.stack=X.outer\/(X.stack=X.env::X.outer/\X.env.frame=some X.env.locals)
 exf:∀b∈X.ex,b≠X.env.locals/\∀x c,X.env.cells.lookup x=some c->c≠b
 bs:∀b o,X.base.get? b=some o->X.s₀.heap.get? b=some o/\X.H₀ b=none
 bsz:X.base.objs.size<=X.s₀.heap.objs.size
 noex:∀b o,X.base.get? b=some o->b∉X.ex
 exfs:∀b∈X.ex,b∉X.fs
 funs:X.s₀.heap.FunFrames X.base X.outer
 frf:∀b∈X.fs,X.H₀ b=none
structure Inv(X:Cx)(pins:List (Addr×Obj))(σ:List (Option V))(H:Hp)(s:Shared):Prop where
 ok:X.Ok
 os:s.os=X.s₀.os
 bare:AllBare s.gens
 base:Un X.fs X.ex X.H₀ H X.s₀.heap s.heap
 loc:∃m,s.heap.Ns X.env.locals m/\∀(i:Nat) (x:Str) (v:V),X.N[i]?=some x->σ[i]?=some (some v)->Vis X.env.scope x->∃u,RelV v u/\Look X.env s.heap m x u
 cell:∀x c,X.env.cells.lookup x=some c->∃v,s.heap.IsCell c v
 free:H X.env.locals=none
 freeC:∀x c,X.env.cells.lookup x=some c->H c=none
 pin:∀p∈X.pn++pins,s.heap.get? p.1=some p.2/\H p.1=none/\p.1≠X.env.locals/\p.1∉X.fs/\∀v,p.2.data≠.cell v
 hok:HOk X.prog X.w H s.heap
 len:σ.length=X.N.length
section
variable {X:Cx}{pins:List (Addr×Obj)}{σ:List (Option V)}{H H':Hp}{s:Shared}{h':Heap}
theorem Cx.Ok.nofr(ok:X.Ok){b:Addr}{o:Obj}(e:X.base.get? b=some o):b∉X.fs:=λhb=>by
 have:=(ok.funs.mem hb).1;rw[e] at this;cases this
theorem Inv.bs(I:Inv X pins σ H s):∀b o,X.base.get? b=some o->s.heap.get? b=some o/\H b=none:=λb o e=>
 ⟨I.base.keep b o (I.ok.bs b o e).1 (I.ok.bs b o e).2 (I.ok.nofr e) (I.ok.noex b o e),I.base.free b o (I.ok.bs b o e).1 (I.ok.bs b o e).2 (I.ok.noex b o e)⟩
theorem Inv.bk(I:Inv X pins σ H s):∀b o,X.base.get? b=some o->s.heap.get? b=some o:=λb o e=>(I.bs b o e).1
theorem Inv.mod(I:Inv X pins σ H s):Mod X.K X.mg X.base:=I.ok.mod
theorem Inv.kIn(I:Inv X pins σ H s):X.K.In s.heap:=I.ok.mod.kin.keeps I.bk
theorem Inv.lt(I:Inv X pins σ H s):X.env.locals<s.heap.objs.size:=let ⟨_,hn,_⟩:=I.loc;hn.lt
theorem Inv.sz(I:Inv X pins σ H s):X.s₀.heap.objs.size<=s.heap.objs.size:=Nat.le_trans I.ok.above (Nat.le_of_lt I.lt)
theorem Inv.nofs(I:Inv X pins σ H s){a:Addr}(h:s.heap.objs.size<=a):a∉X.fs:=λhb=>by
 obtain⟨_,o,ho,_⟩:=I.ok.funs.mem hb;exact absurd (Nat.lt_of_lt_of_le (Heap.lt_size ho) (Nat.le_trans I.sz h)) (Nat.lt_irrefl _)
theorem Inv.cne(I:Inv X pins σ H s):∀x c,X.env.cells.lookup x=some c->c≠X.env.locals:=λx c e z=>by
 obtain⟨v,o,ho,hd⟩:=I.cell x c e;obtain⟨m,⟨o',es,ep,ho',hd',_⟩,_⟩:=I.loc;rw[z,ho'] at ho;cases ho;rw[hd'] at hd;cases hd
theorem Inv.funs(I:Inv X pins σ H s):s.heap.FunFrames X.base X.outer:=by
 have all:∀(l:List Env),(∀b∈frs l,b∈X.fs)->X.s₀.heap.FunFrames X.base l->s.heap.FunFrames X.base l:=by
  intro l;induction l with
  |nil=>intro _ _;trivial
  |cons env r ih=>
   intro hs hl;obtain⟨hk,⟨L,o,hf,hn,ho,hd⟩,hr⟩:=hl;have hL:L∈X.fs:=hs L (by unfold frs;rw[List.filterMap_cons,hf];exact List.mem_cons_self);obtain⟨sl,e⟩:=I.base.slot L o ho (I.ok.frf L hL) hL λz=>I.ok.exfs L z hL;exact⟨hk,⟨L,_,hf,hn,e,hd⟩,ih (λb hb=>hs b (by unfold frs;rw[List.filterMap_cons,hf];exact List.mem_cons_of_mem _ hb)) hr⟩
 exact all X.outer (λ_ hb=>hb) I.ok.funs
theorem Inv.stack(I:Inv X pins σ H s):s.heap.FunFrames X.base X.stack:=by
 rcases I.ok.stk with e|⟨e,hf⟩
 ·rw[e];exact I.funs
 ·rw[e];obtain⟨m,hn,_⟩:=I.loc;refine .cons (by rw[I.ok.kind];decide) hf hn ?_ I.funs;exact Heap.get?_none_of_le (Nat.le_trans I.ok.bsz I.ok.above)
theorem Inv.stkSub(I:Inv X pins σ H s):∀b∈frs X.stack,b∈X.env.locals::X.fs:=λb hb=>by
 rcases I.ok.stk with e|⟨e,hf⟩
 ·rw[e] at hb;exact List.mem_cons_of_mem _ hb
 ·rw[e] at hb;unfold frs at hb;rw[List.filterMap_cons,hf] at hb;exact hb
theorem Inv.stkFree(I:Inv X pins σ H s):∀b∈frs X.stack,H b=none:=λb hb=>by
 rcases List.mem_cons.mp (I.stkSub b hb) with e|hb
 ·rw[e];exact I.free
 ·obtain⟨_,o,ho,_⟩:=I.ok.funs.mem hb;exact I.base.free b o ho (I.ok.frf b hb) λz=>I.ok.exfs b z hb
theorem Inv.step{g':Array GenState}{t':Nat}{d':Drawn}{ch:List Addr}(I:Inv X pins σ H s)
 (hch:∀b∈ch,(b∈X.ex\/X.s₀.heap.objs.size<=b)/\b≠X.env.locals/\(∀x c,X.env.cells.lookup x=some c->c≠b)/\∀p∈X.pn++pins,p.1≠b)
 (keep:∀b o,b≠X.env.locals->b∉X.fs->b∉ch->s.heap.get? b=some o->H b=none->h'.get? b=some o)
 (slot:∀b o,b≠X.env.locals->b∈X.fs->b∉ch->s.heap.get? b=some o->H b=none->∃sl,h'.get? b=some {o with slots:=sl})(free:∀b o,b∉ch->s.heap.get? b=some o->H b=none->H' b=none)
 (there:∀b o,b∉ch->s.heap.get? b=some o->∃o',h'.get? b=some o')
 (tups:∀b xs,H b=some (.tup xs)->H' b=some (.tup xs))(frzs:∀b o u,H b=some (.frz o u)->H' b=some (.frz o u))(tbls:∀b ps,H b=some (.tbl ps)->∃more,H' b=some (.tbl (ps++more)))
 (ns:∀m,s.heap.Ns X.env.locals m->h'.Ns X.env.locals m)(hok:HOk X.prog X.w H' h')(hg:AllBare g'):
  Inv X pins σ H' {s with heap:=h',gens:=g',drawn:=d',toks:=t'}:=by
 have neL:∀b o,X.s₀.heap.get? b=some o->b≠X.env.locals:=λb o e=>Nat.ne_of_lt (Nat.lt_of_lt_of_le (Heap.lt_size e) I.ok.above);have neC:∀b o,X.s₀.heap.get? b=some o->b∉X.ex->b∉ch:=λb o e hx hb=>by
  rcases (hch b hb).1 with z|z
  ·exact hx z
  ·exact absurd (Nat.lt_of_lt_of_le (Heap.lt_size e) z) (Nat.lt_irrefl _)
 have cellK:∀x c,X.env.cells.lookup x=some c->∀v,s.heap.IsCell c v->h'.IsCell c v:=λx c e v ⟨o,ho,hd⟩=>by
  have nch:c∉ch:=λz=>(hch c z).2.2.1 x c e rfl;by_cases hc:c∈X.fs
  ·obtain⟨sl,q⟩:=slot c o (I.cne x c e) hc nch ho (I.freeC x c e);exact⟨_,q,hd⟩
  ·exact⟨o,keep c o (I.cne x c e) hc nch ho (I.freeC x c e),hd⟩
 refine⟨I.ok,I.os,hg,⟨λb o e n hb hx=>?_,λb o e n hb hx=>?_,λb o e n hx=>?_,λb o e hx=>?_,λb xs e=>tups b xs (I.base.tups b xs e),λb o xs e=>frzs b o xs (I.base.frzs b o xs e),λb ps e=>?_⟩,?_,λx c e=>?_,?_,λx c e=>?_,λp hp=>?_,hok,I.len⟩
 ·exact keep b o (neL b o e) hb (neC b o e hx) (I.base.keep b o e n hb hx) (I.base.free b o e n hx)
 ·obtain⟨sl,e1⟩:=I.base.slot b o e n hb hx;obtain⟨sl',e2⟩:=slot b _ (neL b o e) hb (neC b o e hx) e1 (I.base.free b o e n hx);exact⟨sl',e2⟩
 ·obtain⟨o',e1⟩:=I.base.there b o e hx;exact free b o' (neC b o e hx) e1 (I.base.free b o e n hx)
 ·obtain⟨o',e1⟩:=I.base.there b o e hx;exact there b o' (neC b o e hx) e1
 ·obtain⟨m1,e1⟩:=I.base.tbls b ps e;obtain⟨m2,e2⟩:=tbls b _ e1;exact⟨m1++m2,by rw[e2,Array.append_assoc]⟩
 ·obtain⟨m,hn,hl⟩:=I.loc;refine⟨m,ns m hn,λi x v e1 e2 e3=>?_⟩;obtain⟨u,r,l⟩:=hl i x v e1 e2 e3;refine⟨u,r,?_⟩;rcases l with l|⟨k,c,e,z⟩
  ·exact .inl l
  ·exact .inr ⟨k,c,e,cellK x c e _ z⟩
 ·obtain⟨v,z⟩:=I.cell x c e;exact⟨v,cellK x c e v z⟩
 ·obtain⟨m,⟨o,_,_,ho,_⟩,_⟩:=I.loc;exact free _ o (λz=>(hch _ z).2.1 rfl) ho I.free
 ·obtain⟨v,o,ho,hd⟩:=I.cell x c e;exact free c o (λz=>(hch c z).2.2.1 x c e rfl) ho (I.freeC x c e)
 ·obtain⟨e,n,ne,nf,d⟩:=I.pin p hp;have nch:p.1∉ch:=λz=>(hch p.1 z).2.2.2 p hp rfl;exact⟨keep p.1 p.2 ne nf nch e n,free p.1 p.2 nch e n,ne,nf,d⟩
theorem Inv.un{t':Nat}(I:Inv X pins σ H s)(u:Un X.fs [] H H' s.heap h')(hok:HOk X.prog X.w H' h'):Inv X pins σ H' {s with heap:=h',toks:=t'}:=by
 obtain⟨m,⟨o,es,ep,ho,r⟩,_⟩:=id I.loc;obtain⟨sl,hL⟩:=u.any ho I.free (by simp);exact I.step (g':=s.gens) (d':=s.drawn) (ch:=[]) (λ_ z=>nomatch z) (λb o _ hb _ e n=>u.keep b o e n hb (by simp)) (λb o _ hb _ e n=>u.slot b o e n hb (by simp)) (λb o _ e n=>u.free b o e n (by simp)) (λb o _ e=>u.there b o e (by simp)) u.tups u.frzs u.tbls (λm' hm=>by
  obtain⟨o',es',ep',ho',r'⟩:=hm;rw[ho] at ho';cases ho';exact⟨_,es',ep',hL,r'⟩) hok I.bare
theorem Inv.call{g':Array GenState}{t':Nat}{d':Drawn}{ch:List Addr}(I:Inv X pins σ H s)(u:Un (frs X.stack) ch H H' s.heap h')(hok:HOk X.prog X.w H' h')(hg:AllBare g')
 (hch:∀b∈ch,(b∈X.ex\/X.s₀.heap.objs.size<=b)/\b≠X.env.locals/\(∀x c,X.env.cells.lookup x=some c->c≠b)/\∀p∈X.pn++pins,p.1≠b):
  Inv X pins σ H' {s with heap:=h',gens:=g',drawn:=d',toks:=t'}:=by
 obtain⟨m,⟨o,es,ep,ho,r⟩,_⟩:=id I.loc;obtain⟨sl,hL⟩:=u.any ho I.free λz=>(hch _ z).2.1 rfl;exact I.step (ch:=ch) hch (λb o hL hb hc e n=>u.keep b o e n (λz=>(List.mem_cons.mp (I.stkSub b z)).elim hL hb) hc) (λb o _ _ hc e n=>u.any e n hc) (λb o hc e n=>u.free b o e n hc) (λb o hc e=>u.there b o e hc) u.tups u.frzs u.tbls (λm' hm=>by
  obtain⟨o',es',ep',ho',r'⟩:=hm;rw[ho] at ho';cases ho';exact⟨_,es',ep',hL,r'⟩) hok hg
theorem Inv.turned{t':Nat}{it:Addr}(I:Inv X pins σ H s)(k:∀b o,b≠it->s.heap.get? b=some o->h'.get? b=some o)(hn:H it=none)(hL:it≠X.env.locals)
 (h1:it∈X.ex\/X.s₀.heap.objs.size<=it)(h2:∀x c,X.env.cells.lookup x=some c->c≠it)(h3:∀p∈X.pn++pins,p.1≠it):Inv X pins σ H {s with heap:=h',toks:=t'}:=by
 have nit:∀b u,H b=some u->b≠it:=λb u e z=>by rw[z,hn] at e;cases e
 refine I.step (g':=s.gens) (d':=s.drawn) (ch:=[it]) (λb hb=>?_) (λb o _ _ hc e _=>k b o (λz=>hc (by simp[z])) e) (λb o _ _ hc e _=>⟨o.slots,k b o (λz=>hc (by simp[z])) e⟩) (λ_ _ _ _ n=>n)
  (λb o hc e=>⟨o,k b o (λz=>hc (by simp[z])) e⟩) (λ_ _ e=>e) (λ_ _ _ e=>e) (λb ps e=>⟨#[],by rw[e];simp⟩) (λm hm=>?_) (λb u e=>?_) I.bare
 ·have e:b=it:=by simpa using hb
  subst e;exact⟨h1,hL,h2,h3⟩
 ·obtain⟨o,es,ep,ho,r⟩:=hm;exact⟨o,es,ep,k _ o (Ne.symm hL) ho,r⟩
 ·refine(I.hok b u e).stay (λc v hc q=>k c v ?_ q) (λ_ q=>q) λ_ _ q=>q;rcases hc with z|z
  ·rw[z];exact nit b u e
  ·exact nit c _ z
theorem Inv.tok(I:Inv X pins σ H s)(t:Nat):Inv X pins σ H {s with toks:=t}:=I.un (h':=s.heap) (t':=t) Un.refl I.hok
theorem Inv.kept{t':Nat}(I:Inv X pins σ H s)(k:∀b u,s.heap.get? b=some u->h'.get? b=some u):Inv X pins σ H {s with heap:=h',toks:=t'}:=I.un (Un.kept k) (I.hok.kept k)
theorem Inv.laid{a:Addr}{o:HO}{t':Nat}(I:Inv X pins σ H s)(k:∀b u,s.heap.get? b=some u->h'.get? b=some u)(hp:s.heap.objs.size<=a)(new:ObjOk X.prog X.w (upd H a o) h' a o):
  Inv X pins σ (upd H a o) {s with heap:=h',toks:=t'}:=I.un (Un.laid k hp (I.hok.fresh hp)) (I.hok.laid k hp new)
theorem Inv.write{x e:Addr}{o:HO}{t':Nat}(I:Inv X pins σ H s)(mu:Mut (H x))(he:e=x\/H e=some (.own x))(k:∀b u,b≠e->s.heap.get? b=some u->h'.get? b=some u)(heo:∃u,h'.get? e=some u)
 (new:ObjOk X.prog X.w (upd H x o) h' x o):Inv X pins σ (upd H x o) {s with heap:=h',toks:=t'}:=I.un (Un.write mu he k heo) (I.hok.write mu he k heo new)
theorem Inv.weak{σ':List (Option V)}(I:Inv X pins σ H s)(hl:σ'.length=σ.length)(w:∀(i:Nat) v,σ'[i]?=some (some v)->σ[i]?=some (some v)):Inv X pins σ' H s:=
 ⟨I.ok,I.os,I.bare,I.base,let ⟨m,hn,hl'⟩:=I.loc;⟨m,hn,λi x v e1 e2 e3=>hl' i x v e1 (w i v e2) e3⟩,I.cell,I.free,I.freeC,I.pin,I.hok,hl.trans I.len⟩
theorem Inv.pins_of{pins':List (Addr×Obj)}(I:Inv X pins σ H s)(h:∀p∈pins',s.heap.get? p.1=some p.2/\H p.1=none/\p.1≠X.env.locals/\p.1∉X.fs/\∀v,p.2.data≠.cell v):Inv X pins' σ H s:=
 ⟨I.ok,I.os,I.bare,I.base,I.loc,I.cell,I.free,I.freeC,λp hp=>(List.mem_append.mp hp).elim (λz=>I.pin p (List.mem_append_left _ z)) (h p),I.hok,I.len⟩
theorem RI{N:List Str}(hN:N.Nodup){i j:Nat}{x:Str}(a:N[i]?=some x)(b:N[j]?=some x):i=j:=by
 obtain⟨h1,e1⟩:=List.getElem?_eq_some_iff.mp a;obtain⟨h2,e2⟩:=List.getElem?_eq_some_iff.mp b;exact(List.getElem_inj hN).mp (e1.trans e2.symm)
theorem Qk{M:Model}{A:Around}{E:Value->Shared->Prop}{i:Nat}{x:Str}{v:V}{u:Value}{Q:Unit->Shared->Prop}(I:Inv X pins σ H s)(hN:X.N.Nodup)(hi:X.N[i]?=some x)(hx:Loc X.env.scope x)(r:RelV v u)
 (h:∀s',Inv X pins (σ.set i (some v)) H s'->(∃a,Heap.SameBut a s.heap s'.heap/\(a=X.env.locals\/X.env.cells.lookup x=some a))->Q () s')(hf:X.fn x=true\/X.env.scope.names.lookup x=some .local:=by first|exact .inl rfl|exact .inr rfl|assumption):wpAny M A (storeName X.env x u) Q E s:=by
 obtain⟨m,hn,hl⟩:=id I.loc;have hcls:(X.env.scope.kind== .class||(X.env.scope.kind== .module&&X.env.locals !=X.env.globals))=false:=by rw[I.ok.kind];rfl
 have hiσ:i<σ.length:=by rw[I.len];exact(List.getElem?_eq_some_iff.mp hi).1
 have cne:=I.cne;have tracked:∀{a:Addr} {h':Heap},(∃o,s.heap.get? a=some o/\H a=none)->Heap.SameBut a s.heap h'->HOk X.prog X.w H h':=λ{a h'} ha hs b ob e=>by
  obtain⟨_,_,hfree⟩:=ha;refine(I.hok b ob e).stay (λc w' hc q=>(hs.2 c ?_).trans q) (λ_ q=>q) λ_ _ q=>q;rintro rfl;rcases hc with rfl|hc
  ·rw[hfree] at e;cases e
  ·rw[hfree] at hc;cases hc
 rcases hx with hk|hk
 ·refine wpAny_storeName_local hk hn (λh' hn' hs=>?_) hcls;obtain⟨oL,_,_,hoL,_⟩:=id hn;refine h _ ⟨I.ok,I.os,I.bare,⟨λb o e n hb hx=>?_,λb o e n hb hx=>?_,I.base.free,λb o e hx=>?_,I.base.tups,I.base.frzs,I.base.tbls⟩,⟨_,hn',λj y v' e1 e2 e3=>?_⟩,λy c e=>?_,I.free,I.freeC,λp hp=>?_,tracked ⟨oL,hoL,I.free⟩ hs,by simpa using I.len⟩ ⟨_,hs,.inl rfl⟩
  ·exact(hs.2 b (Nat.ne_of_lt (Nat.lt_of_lt_of_le (Heap.lt_size e) I.ok.above))).trans (I.base.keep b o e n hb hx)
  ·obtain⟨sl,e1⟩:=I.base.slot b o e n hb hx;exact⟨sl,(hs.2 b (Nat.ne_of_lt (Nat.lt_of_lt_of_le (Heap.lt_size e) I.ok.above))).trans e1⟩
  ·obtain⟨o',e1⟩:=I.base.there b o e hx;exact⟨o',(hs.2 b (Nat.ne_of_lt (Nat.lt_of_lt_of_le (Heap.lt_size e) I.ok.above))).trans e1⟩
  ·by_cases hj:j=i
   ·subst hj;rw[hi] at e1;cases e1;rw[List.getElem?_set_self hiσ] at e2;cases e2;exact⟨u,r,.inl ⟨hk,by simp⟩⟩
   ·rw[List.getElem?_set_ne (Ne.symm hj)] at e2;obtain⟨u',r',q⟩:=hl j y v' e1 e2 e3;refine⟨u',r',?_⟩;rcases q with ⟨k,e⟩|⟨k,c,e,z⟩
    ·refine .inl ⟨k,?_⟩;have:y≠x:=λe=>hj (RI hN e1 (e▸hi));simp[this,e]
    ·exact .inr ⟨k,c,e,z.sameBut hs (cne y c e)⟩
  ·obtain⟨w',z⟩:=I.cell y c e;exact⟨w',z.sameBut hs (cne y c e)⟩
  ·obtain⟨e,n,ne,nf,d⟩:=I.pin p hp;exact⟨(hs.2 p.1 ne).trans e,n,ne,nf,d⟩
 ·have hfn:X.fn x=true:=by
   rcases hf with z|z
   ·exact z
   ·rw[z] at hk;cases hk
  obtain⟨c,hc⟩:=I.ok.has x (.inl hk);obtain⟨w',z⟩:=I.cell x c hc;refine wpAny_storeName_cell I.ok.kind hk hc z (λh' hc' hs=>?_);obtain⟨oc,hoc,hocd⟩:=id z;refine h {s with heap:=h'} ⟨I.ok,I.os,I.bare,⟨λb o e n hb hx=>?_,λb o e n hb hx=>?_,I.base.free,λb o e hx=>?_,I.base.tups,I.base.frzs,I.base.tbls⟩,⟨m,hn.sameBut hs (Ne.symm (cne x c hc)),λj y v' e1 e2 e3=>?_⟩,λy c' e=>?_,I.free,I.freeC,λp hp=>?_,tracked ⟨oc,hoc,I.freeC x c hc⟩ hs,by simpa using I.len⟩ ⟨c,hs,.inr hc⟩
  ·exact(hs.2 b (Nat.ne_of_lt (Nat.lt_of_lt_of_le (Heap.lt_size e) (I.ok.cab x c hfn hc)))).trans (I.base.keep b o e n hb hx)
  ·obtain⟨sl,e1⟩:=I.base.slot b o e n hb hx;exact⟨sl,(hs.2 b (Nat.ne_of_lt (Nat.lt_of_lt_of_le (Heap.lt_size e) (I.ok.cab x c hfn hc)))).trans e1⟩
  ·obtain⟨o',e1⟩:=I.base.there b o e hx;exact⟨o',(hs.2 b (Nat.ne_of_lt (Nat.lt_of_lt_of_le (Heap.lt_size e) (I.ok.cab x c hfn hc)))).trans e1⟩
  ·by_cases hj:j=i
   ·subst hj;rw[hi] at e1;cases e1;rw[List.getElem?_set_self hiσ] at e2;cases e2;exact⟨u,r,.inr ⟨.inl hk,c,hc,hc'⟩⟩
   ·rw[List.getElem?_set_ne (Ne.symm hj)] at e2;obtain⟨u',r',q⟩:=hl j y v' e1 e2 e3;refine⟨u',r',?_⟩;rcases q with q|⟨k,c',e,z'⟩
    ·exact .inl q
    ·refine .inr ⟨k,c',e,z'.sameBut hs ?_⟩;rintro rfl;exact hj (RI hN e1 (I.ok.inj _ _ _ e hc▸hi))
  ·by_cases hcc:c'=c
   ·subst hcc;exact⟨_,hc'⟩
   ·obtain⟨w2,z2⟩:=I.cell y c' e;exact⟨w2,z2.sameBut hs hcc⟩
  ·obtain⟨e,n,ne,nf,d⟩:=I.pin p hp;refine⟨(hs.2 p.1 ?_).trans e,n,ne,nf,d⟩;intro q;rw[q,hoc] at e;have q':oc=p.2:=Option.some.inj e;exact d w' (by rw[←q'];exact hocd)
theorem Us{M:Model}{A:Around}{E:Value->Shared->Prop}{i:Nat}{x:Str}{v:V}{u:Value}{Q:Unit->Shared->Prop}(I:Inv X pins σ H s)(hN:X.N.Nodup)(hi:X.N[i]?=some x)(hx:Loc X.env.scope x)(r:RelV v u)
 (h:∀s',Inv X pins (σ.set i (some v)) H s'->Q () s')(hf:X.fn x=true\/X.env.scope.names.lookup x=some .local:=by first|exact .inl rfl|exact .inr rfl|assumption):wpAny M A (storeName X.env x u) Q E s:=
 Qk I hN hi hx r (λs' I' _=>h s' I') hf
theorem Inv.call'{s':Shared}{ch:List Addr}(I:Inv X pins σ H s)(ho:s'.os=s.os)(u:Un (frs X.stack) ch H H' s.heap s'.heap)(hok:HOk X.prog X.w H' s'.heap)(hg:AllBare s'.gens)
 (hch:∀b∈ch,(b∈X.ex\/X.s₀.heap.objs.size<=b)/\b≠X.env.locals/\(∀x c,X.env.cells.lookup x=some c->c≠b)/\∀p∈X.pn++pins,p.1≠b):Inv X pins σ H' s':=by
 obtain⟨h',g',d',t',o'⟩:=s';have e:o'=s.os:=ho;subst e;exact I.call (g':=g') (t':=t') (d':=d') u hok hg hch
end
abbrev XK:=Value->Option Addr->Hp->Prop
abbrev St:=List (Option V)
abbrev VK:=V->Hp->Prop
abbrev TE:=St->Hp->VK->Prop
abbrev TT:=St->Hp->(Bool->Hp->Prop)->Prop
abbrev TA:=St->Hp->(List V->Hp->Prop)->Prop
structure Ends where
 nx:St->Hp->Prop
 rt:VK
 bk:St->Hp->Prop:=λ_ _=>False
 ct:St->Hp->Prop:=λ_ _=>False
abbrev TS:=Ends->St->Hp->Prop
def EP(X:Cx)(pins:List (Addr×Obj))(σ:St)(Q:VK)(u:Value)(s':Shared):Prop:=∃v H',Inv X pins σ H' s'/\RelV v u/\Q v H'
def TP(X:Cx)(pins:List (Addr×Obj))(σ:St)(Q:Bool->Hp->Prop)(b:Bool)(s':Shared):Prop:=∃H',Inv X pins σ H' s'/\Q b H'
def AP(X:Cx)(pins:List (Addr×Obj))(σ:St)(Q:List V->Hp->Prop)(us:List Value)(s':Shared):Prop:=∃vs H',Inv X pins σ H' s'/\Vals vs us/\Q vs H'
def SP(X:Cx)(pins:List (Addr×Obj))(D:Ends)(f:Flow)(s':Shared):Prop:=
 match f with
 | .next=>∃σ' H',Inv X pins σ' H' s'/\D.nx σ' H'
 | .brk=>∃σ' H',Inv X pins σ' H' s'/\D.bk σ' H'
 | .cont=>∃σ' H',Inv X pins σ' H' s'/\D.ct σ' H'
 | .ret u=>∃v σ' H',Inv X pins σ' H' s'/\RelV v u/\D.rt v H'
def PE(X:Cx)(e:Expr)(t:TE):Prop:=
 ∀(pins:List (Addr×Obj)) (s:Shared) (σ:St) (H:Hp) (Q:VK),Inv X pins σ H s->t σ H Q->wpAny (model X.prog X.w) X.A (eval e X.env) (EP X pins σ Q) X.xe s
def PT(X:Cx)(e:Expr)(t:TT):Prop:=
 ∀(pins:List (Addr×Obj)) (s:Shared) (σ:St) (H:Hp) (Q:Bool->Hp->Prop),Inv X pins σ H s->t σ H Q->wpAny (model X.prog X.w) X.A (isTrue e X.env (eval e X.env)) (TP X pins σ Q) X.xe s
def PW(X:Cx)(e:Expr)(t:TT):Prop:=
 ∀(whole:Sem Value) (pins:List (Addr×Obj)) (s:Shared) (σ:St) (H:Hp) (Q:Bool->Hp->Prop),Inv X pins σ H s->t σ H Q->wpAny (model X.prog X.w) X.A (isTrue e X.env whole) (TP X pins σ Q) X.xe s
theorem PW.pt{X:Cx}{e:Expr}{t:TT}(h:PW X e t):PT X e t:=h _
def PA(X:Cx)(es:List Expr)(t:TA):Prop:=
 ∀(pos:Pos) (pins:List (Addr×Obj)) (s:Shared) (σ:St) (H:Hp) (Q:List V->Hp->Prop),Inv X pins σ H s->t σ H Q->wpAny (model X.prog X.w) X.A (spliced (backTo pos (starEach es X.env))) (AP X pins σ Q) X.xe s
def PS(X:Cx)(st:Stmt)(t:TS):Prop:=
 ∀(pins:List (Addr×Obj)) (s:Shared) (σ:St) (H:Hp) (D:Ends),Inv X pins σ H s->t D σ H->wpAny (model X.prog X.w) X.A (exec st X.env) (SP X pins D) X.xe s
def PSs(X:Cx)(st:List Stmt)(t:TS):Prop:=
 ∀(pins:List (Addr×Obj)) (s:Shared) (σ:St) (H:Hp) (D:Ends),Inv X pins σ H s->t D σ H->wpAny (model X.prog X.w) X.A (execs st X.env) (SP X pins D) X.xe s
theorem thn{α:Type}{t:Sem α}{Q Q':α->Shared->Prop}{M:Model}{A:Around}{E:Value->Shared->Prop}{s:Shared}(h:wpAny M A t Q E s)(hQ:∀a s,Q a s->Q' a s):wpAny M A t Q' E s:=wpAny_mono h hQ λ_ _ x=>x
end L2
namespace L2
open PySem PySem.Spec PyProof.Rows
section
variable {X:Cx}
def tVar(i:Nat):TE:=λσ H Q=>∃v,σ[i]?=some (some v)/\Q v H
def tC(v:V):TE:=λ_ H Q=>Q v H
theorem pe_var{i:Nat}{x:Str}{pos:Pos}(hN:X.N[i]?=some x)(hv:Vis X.env.scope x)(hd:(x==("__debug__":Str))=false:=by decide)(hcd:(x==("__classdict__":Str))=false:=by decide):PE X (.Name x pos) (tVar i):=by
 intro pins s σ H Q I h;obtain⟨v,e,h⟩:=h;obtain⟨m,hn,hl⟩:=I.loc;obtain⟨u,r,l⟩:=hl i x v hN e hv;have fin:EP X pins σ Q u s:=⟨v,H,I,r,h⟩;rcases l with ⟨hk,hm⟩|⟨hk,c,hc,hcell⟩
 ·exact wpAny_Name (wpAny_loadName_local I.ok.kind hk hn hm fin) hd
 ·rcases hk with hk|hk
  ·exact wpAny_Name (wpAny_loadName_cell I.ok.kind hk hc hcell fin) hd
  ·exact wpAny_Name (wpAny_loadName_free I.ok.kind hk hc hcell fin hcd) hd
theorem Zg{i j pos}:PE X (.Constant (.int i) j pos) (tC (.int i)):=λ_ _ _ H _ I h=>wpAny_Constant_int ⟨.int i,H,I.tok _,⟨_,rfl⟩,h⟩
theorem VI{b j pos}:PE X (.Constant (.bool b) j pos) (tC (.bl b)):=λ_ _ _ H _ I h=>Constant_bool ⟨.bl b,H,I,rfl,h⟩
theorem ZK{j pos}:PE X (.Constant .none j pos) (tC .non):=λ_ _ _ H _ I h=>Constant_none ⟨.non,H,I,rfl,h⟩
theorem Zl{x j pos}:PE X (.Constant (.str x) j pos) (tC (.str x)):=λ_ _ _ H _ I h=>Calls.Constant_str ⟨.str x,H,I.tok _,⟨_,rfl⟩,h⟩
def Gl(X:Cx)(x:Str):Prop:=X.env.kindOf x=some .globalImplicit
theorem US{E:Value->Shared->Prop}{pins:List (Addr×Obj)}{s:Shared}{σ:St}{H:Hp}{x:Str}{u:Value}{pos:Pos}{Q:Value->Shared->Prop}(I:Inv X pins σ H s)(hg:Gl X x)(hm:X.mg x=some u)(h:Q u s)
 (hd:(x==("__debug__":Str))=false:=by decide):wpAny (model X.prog X.w) X.A (eval (.Name x pos) X.env) Q E s:=
 Calls.Name_function_global I.ok.kind hg (Calls.loadGlobal_global (by rw[I.ok.glob];exact I.mod.glob.keeps I.bk) hm h) hd
theorem Tn{E:Value->Shared->Prop}{pins:List (Addr×Obj)}{s:Shared}{σ:St}{H:Hp}{x:Str}{u:Value}{pos:Pos}{Q:Value->Shared->Prop}(I:Inv X pins σ H s)(hg:Gl X x)(hm:X.mg x=none)(hv:bootBuiltins x=some u)(h:Q u s)
 (hn:x≠"__name__":=by decide)(hd:(x==("__debug__":Str))=false:=by decide):wpAny (model X.prog X.w) X.A (eval (.Name x pos) X.env) Q E s:=by
 obtain⟨mb,h1,h2⟩:=I.mod.blt;exact Calls.Name_function_global I.ok.kind hg (Calls.loadGlobal_builtin (by rw[I.ok.glob];exact I.mod.glob.keeps I.bk) hm (by rw[I.ok.blt];exact h1.keeps I.bk) ((h2 x hn).trans hv) h) hd
theorem pe_glob{x:Str}{v:V}{u:Value}{pos:Pos}(hg:Gl X x)(hm:X.mg x=some u)(r:RelV v u)(hd:(x==("__debug__":Str))=false:=by decide):PE X (.Name x pos) (tC v):=
 λ_ _ _ H _ I h=>US I hg hm ⟨v,H,I,r,h⟩ hd
theorem pe_bltn{x:Str}{v:V}{u:Value}{pos:Pos}(hg:Gl X x)(hm:X.mg x=none)(hv:bootBuiltins x=some u)(r:RelV v u)(hn:x≠"__name__":=by decide)(hd:(x==("__debug__":Str))=false:=by decide):PE X (.Name x pos) (tC v):=
 λ_ _ _ H _ I h=>Tn I hg hm hv ⟨v,H,I,r,h⟩ hn hd
variable {a b:Expr}{ta tb:TE}{pos:Pos}
def PC(X:Cx)(op:CmpOp)(a b:Expr)(t:TE):Prop:=
 ∀(pins:List (Addr×Obj)) (s:Shared) (σ:St) (H:Hp) (Q:VK),Inv X pins σ H s->t σ H Q->
  wpAny (model X.prog X.w) X.A (eval a X.env) (λv s₁=>wpAny (model X.prog X.w) X.A (eval b X.env) (λu s₂=>wpAny (model X.prog X.w) X.A (compareOp op v u) (EP X pins σ Q) X.xe s₂) X.xe s₁) X.xe s
def tB(t:TE):TT:=λσ H Q=>t σ H λx H1=>∃c,x= .bl c/\Q c H1
theorem Ug{op:CmpOp}{t:TE}(h:PC X op a b t)(h1:behindInMarks op b=false:=by first|exact nobehind _ (by decide) (by decide)|rfl):PT X (.Compare a [op] [b] pos) (tB t):=by
 intro pins s σ H Q I hw;refine wpAny_isTrue_Compare1 (thn (h pins s σ H _ I hw) λv s1 h1=>thn h1 λu s2 h2=>thn h2 λc s3 ⟨x,H1,I1,r1,q1⟩=>?_) h1;obtain⟨d,rfl,q⟩:=q1;cases r1;exact wpAny_truthy_bool ⟨H1,I1,q⟩
variable {tA tB':TT}{rest:List Expr}
def tAnd(t u:TT):TT:=λσ H Q=>t σ H λc H1=>if c=true then u σ H1 Q else Q false H1
def tOr(t u:TT):TT:=λσ H Q=>t σ H λc H1=>if c=true then Q true H1 else u σ H1 Q
def tNot(t:TT):TT:=λσ H Q=>t σ H λc H1=>Q (!c) H1
theorem Tw(ha:PT X a tA):PW X (.BoolOp .And [a] pos) tA:=by
 intro wh pins s σ H Q I h;refine isTrue_and (thn (ha pins s σ H Q I h) λc s1 e=>?_);cases c with
 |true=>exact isTrue_and_nil e
 |false=>exact e
theorem Ue(ha:PT X a tA):PW X (.BoolOp .Or [a] pos) tA:=by
 intro wh pins s σ H Q I h;refine isTrue_or (thn (ha pins s σ H Q I h) λc s1 e=>?_);cases c with
 |false=>exact isTrue_or_nil e
 |true=>exact e
theorem RA(ha:PT X a tA)(hb:PW X (.BoolOp .And (b::rest) pos) tB'):PW X (.BoolOp .And (a::b::rest) pos) (tAnd tA tB'):=by
 intro wh pins s σ H Q I h;refine isTrue_and (thn (ha pins s σ H _ I h) λc s1 ⟨H1,I1,q1⟩=>?_);cases c with
 |true=>exact hb wh pins s1 σ H1 Q I1 q1
 |false=>exact⟨H1,I1,q1⟩
theorem UY(ha:PT X a tA)(hb:PW X (.BoolOp .Or (b::rest) pos) tB'):PW X (.BoolOp .Or (a::b::rest) pos) (tOr tA tB'):=by
 intro wh pins s σ H Q I h;refine isTrue_or (thn (ha pins s σ H _ I h) λc s1 ⟨H1,I1,q1⟩=>?_);cases c with
 |true=>exact⟨H1,I1,q1⟩
 |false=>exact hb wh pins s1 σ H1 Q I1 q1
theorem VO(ha:PT X a tA):PT X (.UnaryOp .Not a pos) (tNot tA):=by
 intro pins s σ H Q I h;exact isTrue_not (ha pins s σ H (λc H1=>Q (!c) H1) I h)
def tIf(t:TT)(ta tb:TE):TE:=λσ H Q=>t σ H λc H1=>if c=true then ta σ H1 Q else tb σ H1 Q
theorem pe_ifExp{c:Expr}(hc:PT X c tA)(ha:PE X a ta)(hb:PE X b tb):PE X (.IfExp c a b pos) (tIf tA ta tb):=by
 intro pins s σ H Q I h;refine wpAny_IfExp (thn (hc pins s σ H _ I h) λd s1 ⟨H1,I1,q1⟩=>?_);cases d with
 |true=>exact ha pins s1 σ H1 Q I1 q1
 |false=>exact hb pins s1 σ H1 Q I1 q1
end
end L2
namespace L2
open PySem PySem.Spec PyProof.Rows
def SqL(K:W.Frag)(H:Hp)(a:Addr)(xs:List V):Prop:=
 Rd H a (.lst xs)\/
  ∃(o:Obj) (its:Array Value) (n:Nat),K.lookup a=some o/\o.cls= .type "list"/\o.dict=none/\o.data= .seq its n/\its.size<=sizeLine/\Vals xs its.toList
def SqT(K:W.Frag)(H:Hp)(a:Addr)(xs:List V):Prop:=
 Rd H a (.tup xs)\/
  ∃(o:Obj) (its:Array Value) (n:Nat),K.lookup a=some o/\o.cls= .type "tuple"/\o.data= .seq its n/\its.size<=sizeLine/\Vals xs its.toList
noncomputable def absV:Value->Option V
 | .none=>some .non
 | .bool b=>some (.bl b)
 | .int i _=>some (.int i)
 | .str x _=>some (.str x)
 | .bytes b _=>some (.byt b)
 | .float b _=>some (.flt b)
 | .ref a=>some (.ref a)
 | .type n=>some (.ty n)
 |_=>none
theorem RelV.abs{x:V}{u:Value}(r:RelV x u):absV u=some x:=by
 cases x with
 |non=>cases r;rfl
 |bl _=>cases r;rfl
 |int _=>obtain⟨t,rfl⟩:=r;rfl
 |str _=>obtain⟨t,rfl⟩:=r;rfl
 |byt _=>obtain⟨t,rfl⟩:=r;rfl
 |flt _=>obtain⟨t,rfl⟩:=r;rfl
 |ref _=>cases r;rfl
 |ty _=>cases r;rfl
theorem RelV.inj{x y:V}{u:Value}(r:RelV x u)(q:RelV y u):x=y:=Option.some.inj (r.abs.symm.trans q.abs)
theorem Vals.inj:∀{xs ys:List V} {us:List Value},Vals xs us->Vals ys us->xs=ys
 |_,_,_,.nil,.nil=>rfl
 |_,_,_,.cons r t,.cons r' t'=>by rw[r.inj r',Vals.inj t t']
section
variable {X:Cx}{pins:List (Addr×Obj)}{σ:St}{H:Hp}{s:Shared}{a:Addr}{xs ys:List V}
theorem SqL.of{K:W.Frag}(h:H a=some (.lst xs)):SqL K H a xs:=.inl (.inl h)
theorem SqT.of{K:W.Frag}(h:H a=some (.tup xs)):SqT K H a xs:=.inl (.inl h)
theorem Inv.list(I:Inv X pins σ H s)(h:SqL X.K H a xs):∃its:List Value,Vals xs its/\PlainL s.heap a its.toArray/\xs.length<=sizeLine:=by
 rcases h with h|⟨o,its,n,hk,hc,hd,hs,hz,r⟩
 ·obtain⟨z,its,n,r,e⟩:=h.ok I.hok;exact⟨its,r,⟨_,n,e,rfl,rfl,rfl⟩,z⟩
 ·refine⟨its.toList,r,⟨o,n,I.kIn a o hk,hc,hd,by simpa using hs⟩,?_⟩;have e:=r.length;simp only[Array.length_toList] at e;omega
theorem Inv.tuple(I:Inv X pins σ H s)(h:SqT X.K H a xs):∃its:List Value,Vals xs its/\IsTup s.heap a its.toArray/\xs.length<=sizeLine:=by
 rcases h with h|⟨o,its,n,hk,hc,hs,hz,r⟩
 ·obtain⟨z,its,r,p⟩:=h.ok I.hok;exact⟨its,r,p,z⟩
 ·refine⟨its.toList,r,⟨o,I.kIn a o hk,hc,n,by simpa using hs⟩,?_⟩;have e:=r.length;simp only[Array.length_toList] at e;omega
theorem Inv.list_inj(I:Inv X pins σ H s)(h:SqL X.K H a xs)(h':SqL X.K H a ys):xs=ys:=by
 obtain⟨its,r,⟨o,n,e,_,_,d⟩,_⟩:=I.list h;obtain⟨its',r',⟨o',n',e',_,_,d'⟩,_⟩:=I.list h';rw[e] at e';cases e';rw[d] at d';injection d' with d1 _
 have:its=its':=by simpa using congrArg Array.toList d1
 subst this;exact r.inj r'
theorem Inv.tuple_inj(I:Inv X pins σ H s)(h:SqT X.K H a xs)(h':SqT X.K H a ys):xs=ys:=by
 obtain⟨its,r,⟨o,e,_,n,d⟩,_⟩:=I.tuple h;obtain⟨its',r',⟨o',e',_,n',d'⟩,_⟩:=I.tuple h';rw[e] at e';cases e';rw[d] at d';injection d' with d1 _
 have:its=its':=by simpa using congrArg Array.toList d1
 subst this;exact r.inj r'
end
abbrev Cx.wish(X:Cx)(E:Value->Shared->Prop):Cx:={X with xe:=E}
abbrev Cx.nox(X:Cx):Cx:=X.wish λ_ _=>False
theorem Cx.Ok.wish{X:Cx}(ok:X.Ok)(E:Value->Shared->Prop):(X.wish E).Ok:=
 ⟨ok.mod,ok.kind,ok.glob,ok.blt,ok.above,ok.inj,ok.has,ok.cab,ok.hd,ok.frames,ok.stk,ok.exf,ok.bs,ok.bsz,ok.noex,ok.exfs,ok.funs,ok.frf⟩
theorem Cx.Ok.unwish{X:Cx}{E:Value->Shared->Prop}(ok:(X.wish E).Ok):X.Ok:=
 ⟨ok.mod,ok.kind,ok.glob,ok.blt,ok.above,ok.inj,ok.has,ok.cab,ok.hd,ok.frames,ok.stk,ok.exf,ok.bs,ok.bsz,ok.noex,ok.exfs,ok.funs,ok.frf⟩
section
variable {X:Cx}{pins:List (Addr×Obj)}{σ:St}{H:Hp}{s:Shared}{E:Value->Shared->Prop}
theorem Inv.wish(I:Inv X pins σ H s)(E:Value->Shared->Prop):Inv (X.wish E) pins σ H s:=⟨I.ok.wish E,I.os,I.bare,I.base,I.loc,I.cell,I.free,I.freeC,I.pin,I.hok,I.len⟩
theorem Inv.unwish(I:Inv (X.wish E) pins σ H s):Inv X pins σ H s:=⟨I.ok.unwish,I.os,I.bare,I.base,I.loc,I.cell,I.free,I.freeC,I.pin,I.hok,I.len⟩
theorem SP.unwish{D:Ends}{f:Flow}{s':Shared}(h:SP (X.wish E) pins D f s'):SP X pins D f s':=by
 cases f with
 |next=>obtain⟨σ',H',I,q⟩:=h;exact⟨σ',H',I.unwish,q⟩
 |brk=>obtain⟨σ',H',I,q⟩:=h;exact⟨σ',H',I.unwish,q⟩
 |cont=>obtain⟨σ',H',I,q⟩:=h;exact⟨σ',H',I.unwish,q⟩
 |ret u=>obtain⟨v,σ',H',I,r,q⟩:=h;exact⟨v,σ',H',I.unwish,r,q⟩
theorem PSs.nox{st:List Stmt}{t:TS}(h:PSs X.nox st t):PSs X st t:=λpins s σ H D I hw=>
 wpAny_mono (h pins s σ H D (I.wish _) hw) (λ_ _ q=>q.unwish) λ_ _ z=>False.elim z
end
section
variable {X:Cx}{st:Stmt}{rest:List Stmt}{t u:TS}{e:Expr}{te:TE}{pos:Pos}
def tNext:TS:=λD σ H=>D.nx σ H
def tSeq(t u:TS):TS:=λD σ H=>t {D with nx:=u D} σ H
theorem Zv:PSs X [] tNext:=λ_ _ σ H _ I h=>wpAny_execs_nil ⟨σ,H,I,h⟩
theorem Zh(h1:PS X st t)(h2:PSs X rest u):PSs X (st::rest) (tSeq t u):=by
 intro pins s σ H D I h;refine wpAny_execs_cons (thn (h1 pins s σ H {D with nx:=u D} I h) λf s1 q=>?_);cases f with
 |next=>
  obtain⟨σ',H',I',q⟩:=q;exact h2 pins s1 σ' H' D I' q
 |ret v=>exact q
 |brk=>exact q
 |cont=>exact q
theorem Zf(h1:PS X st t):PSs X [st] t:=by
 intro pins s σ H D I h;refine wpAny_execs_cons (thn (h1 pins s σ H D I h) λf s1 q=>?_);cases f with
 |next=>exact wpAny_execs_nil q
 |ret v=>exact q
 |brk=>exact q
 |cont=>exact q
def tBreak:TS:=λD σ H=>D.bk σ H
theorem ps_break:PS X (.Break pos) tBreak:=λ_ _ σ H _ I h=>wpAny_Break ⟨σ,H,I,h⟩
theorem Inv.quiet{pins:List (Addr×Obj)}{σ:St}{H:Hp}{s:Shared}(I:Inv X pins σ H s):interactive X.env=false:=by simp[interactive,I.ok.kind]
def tDrop(te:TE):TS:=λD σ H=>te σ H λ_ H1=>D.nx σ H1
theorem ZH(he:PE X e te)(hs:swapsWith e none pos.line X.env=pure false:=by rfl):PS X (.Expr e pos) (tDrop te):=by
 intro pins s σ H D I h;exact wpAny_Expr_any (thn (he pins s σ H _ I h) λv s1 ⟨x,H1,I1,r1,q1⟩=>⟨σ,H1,I1,q1⟩) I.quiet hs
def tRet(te:TE):TS:=λD σ H=>te σ H D.rt
theorem Zn(he:PE X e te):PS X (.Return (some e) pos) (tRet te):=by
 intro pins s σ H D I h;exact wpAny_Return_some (thn (he pins s σ H _ I h) λv s1 ⟨x,H1,I1,r1,q1⟩=>⟨x,σ,H1,I1,r1,q1⟩)
def tIfS(c:TT)(t u:TS):TS:=λD σ H=>c σ H λb H1=>if b=true then t D σ H1 else u D σ H1
theorem ZG{c:Expr}{a b:List Stmt}{tc:TT}(hc:PT X c tc)(ha:PSs X a t)(hb:PSs X b u):PS X (.If c a b pos) (tIfS tc t u):=by
 intro pins s σ H D I h;refine wpAny_If (thn (hc pins s σ H _ I h) λd s1 ⟨H1,I1,q1⟩=>?_);cases d with
 |true=>exact ha pins s1 σ H1 D I1 q1
 |false=>exact hb pins s1 σ H1 D I1 q1
end
abbrev TG:=V->St->Hp->(St->Hp->Prop)->Prop
abbrev TGs:=List V->St->Hp->(St->Hp->Prop)->Prop
def PG(X:Cx)(target:Expr)(t:TG):Prop:=
 ∀(pins:List (Addr×Obj)) (s:Shared) (σ:St) (H:Hp) (v:V) (u:Value) (Q:St->Hp->Prop),Inv X pins σ H s->RelV v u->t v σ H Q->
  wpAny (model X.prog X.w) X.A (assign target X.env u) (λ_ s'=>∃σ' H',Inv X pins σ' H' s'/\Q σ' H') X.xe s
def PGs(X:Cx)(ts:List Expr)(t:TGs):Prop:=
 ∀(pins:List (Addr×Obj)) (s:Shared) (σ:St) (H:Hp) (vs:List V) (us:List Value) (Q:St->Hp->Prop),Inv X pins σ H s->Vals vs us->t vs σ H Q->
  wpAny (model X.prog X.w) X.A (assignInOrder ((assignEach ts X.env).map (·.2)) us) (λ_ s'=>∃σ' H',Inv X pins σ' H' s'/\Q σ' H') X.xe s
section
variable {X:Cx}{pos:Pos}
def gName(i:Nat):TG:=λv σ H Q=>Q (σ.set i (some v)) H
theorem Yi{i:Nat}{x:Str}(hN:X.N.Nodup)(hi:X.N[i]?=some x)(hx:Loc X.env.scope x)(hf:X.fn x=true\/X.env.scope.names.lookup x=some .local:=by first|exact .inl rfl|exact .inr rfl|assumption):PG X (.Name x pos) (gName i):=by
 intro pins s σ H v u Q I r h;exact wpAny_assign_Name (Us I hN hi hx r (λs' I'=>⟨_,H,I',h⟩) hf)
def gNil:TGs:=λvs σ H Q=>vs=[]/\Q σ H
def gCons(t:TG)(u:TGs):TGs:=λvs σ H Q=>∃v r,vs=v::r/\t v σ H λσ' H'=>u r σ' H' Q
theorem SX:PGs X [] gNil:=by
 intro pins s σ H vs us Q I r h;obtain⟨e,h⟩:=h;subst e;cases r;exact assignInOrder_nil ⟨σ,H,I,h⟩
theorem XH{e:Expr}{es:List Expr}{t:TG}{u:TGs}(h1:PG X e t)(h2:PGs X es u)
 (hs:(assignEach (e::es) X.env).map (·.2)=assign e X.env::(assignEach es X.env).map (·.2):=by rfl):PGs X (e::es) (gCons t u):=by
 intro pins s σ H vs us Q I r h;obtain⟨v,vr,e1,h⟩:=h;subst e1;cases r with
 |cons r rr=>
  rw[hs];refine assignInOrder_cons (thn (h1 pins s σ H _ _ _ I r h) λ_ s1 ⟨σ1,H1,I1,q1⟩=>?_);exact h2 pins s1 σ1 H1 _ _ Q I1 rr q1
def gTup(K:W.Frag)(n:Nat)(t:TGs):TG:=λv σ H Q=>∃a xs,v= .ref a/\SqT K H a xs/\xs.length=n/\t xs σ H Q
theorem Pg{es:List Expr}{k:Nat}{t:TGs}{n:Nat}(hc:X.calm=true)(h:PGs X es t)
 (hn:(assignEach es X.env).length=n:=by rfl)(hst:(assignEach es X.env).findIdx? (·.1)=none:=by rfl):PG X (.Tuple es k pos) (gTup X.K n t):=by
 intro pins s σ H v u Q I r hw;obtain⟨a,xs,e1,hq,hl,hw⟩:=hw;subst e1;cases r;obtain⟨its,rv,ht,hz⟩:=I.tuple hq;refine assign_Tuple_tuple (I.ok.hd hc) ht (by simp[hn,←hl,rv.length]) hst λh' hx=>?_;have I1:Inv X pins σ H {s with heap:=h'}:=I.kept (t':=s.toks) λb o e=>hx b o (Nat.ne_of_lt (Heap.lt_size e)) e;exact h pins _ σ H xs _ Q I1 (by simpa using rv) hw
def tAsg(te:TE)(g:TG):TS:=λD σ H=>te σ H λx H1=>g x σ H1 D.nx
theorem ps_asg{tg e:Expr}{te:TE}{g:TG}(he:PE X e te)(hg:PG X tg g)(hs:swapsWithSole [tg] e pos.line X.env=pure false:=by rfl)(hw:swappedStores [tg] e X.env=pure none:=by rfl)
 (h1:(assignEach [tg] X.env).map (·.2)=[assign tg X.env]:=by rfl):PS X (.Assign [tg] e pos) (tAsg te g):=by
 intro pins s σ H D I h;refine wpAny_Assign_stores (thn (he pins s σ H _ I h) λv s1 ⟨x,H1,I1,r1,q1⟩=>?_) hs hw;rw[h1];exact thn (hg pins s1 σ H1 x v _ I1 r1 q1) λ_ s2 q=>q
theorem Zw{i:Nat}{x:Str}{e:Expr}{te:TE}{pos':Pos}(hN:X.N.Nodup)(hi:X.N[i]?=some x)(hx:Loc X.env.scope x)(he:PE X e te)(hs:swapsWith e (some (.Name x pos')) pos.line X.env=pure false:=by rfl)(hf:X.fn x=true\/X.env.scope.names.lookup x=some .local:=by first|exact .inl rfl|exact .inr rfl|assumption):
  PS X (.Assign [.Name x pos'] e pos) (tAsg te (gName i)):=by
 intro pins s σ H D I h;refine wpAny_Assign_Name (thn (he pins s σ H _ I h) λv s1 ⟨y,H1,I1,r1,q1⟩=>?_) hs;exact Us I1 hN hi hx r1 (λs2 I2=>⟨_,H1,I2,q1⟩) hf
end
section
variable {X:Cx}{pos:Pos}
def tWhile(c:TT)(tb:TS):TS:=λD σ H=>∃W:Nat->St->Hp->Prop,(∃m,W m σ H)/\∀m σ H,W m σ H->
 c σ H λb H1=>if b=true then ∃N:St->Hp->Prop,(∀σ' H',N σ' H'->∃m',m'<m/\W m' σ' H')/\tb {D with nx:=N,ct:=N,bk:=D.nx} σ H1 else D.nx σ H1
theorem Tx{c:Expr}{body:List Stmt}{tc:TT}{tb:TS}(hp:PassesOwn (model X.prog X.w) X.A X.env X.xe)(hc:PT X c tc)(hb:PSs X body tb):PS X (.While c body [] pos) (tWhile tc tb):=by
 intro pins s σ H D I h;obtain⟨W,⟨m0,w0⟩,turn⟩:=h;refine wpAny_While (codeAny_whileLoop (λn s'=>∃σ' H',Inv X pins σ' H' s'/\W n σ' H') ?_ m0 ⟨σ,H,I,w0⟩);rintro n s1 ⟨σ1,H1,I1,w1⟩;refine wpAny_passesOwn hp (thn (hc pins s1 σ1 H1 _ I1 (turn n σ1 H1 w1)) λb s2 ⟨H2,I2,q2⟩=>?_);cases b with
 |true=>
  obtain⟨N,hN,q2⟩:=q2;rw[if_pos rfl];refine wpAny_passesOwn hp (thn (hb pins s2 σ1 H2 _ I2 q2) λf s3 q3=>?_);cases f with
  |next=>
   obtain⟨σ3,H3,I3,n3⟩:=q3;obtain⟨m',hm,w3⟩:=hN σ3 H3 n3;exact⟨m',hm,σ3,H3,I3,w3⟩
  |cont=>
   obtain⟨σ3,H3,I3,n3⟩:=q3;obtain⟨m',hm,w3⟩:=hN σ3 H3 n3;exact⟨m',hm,σ3,H3,I3,w3⟩
  |brk=>exact q3
  |ret v=>exact q3
 |false=>
  rw[if_neg Bool.false_ne_true];exact wpAny_execs_nil ⟨σ1,H2,I2,q2⟩
end
structure It where
 go:Nat->Hp->Prop
 yld:Nat->Hp->V->Hp->Prop
 stop:Nat->Hp->Prop
def FpOk(X:Cx)(pins:List (Addr×Obj))(H:Hp)(b:Addr):Prop:=
 H b=none/\b≠X.env.locals/\b∉X.fs/\(b∈X.ex\/X.s₀.heap.objs.size<=b)/\(∀x c,X.env.cells.lookup x=some c->c≠b)/\∀p∈X.pn++pins,p.1≠b
theorem Inv.fpOk{X:Cx}{pins:List (Addr×Obj)}{σ:St}{H H':Hp}{s:Shared}{b:Addr}(I:Inv X pins σ H s)(hb:s.heap.objs.size<=b)(hn:H' b=none):FpOk X pins H' b:=by
 refine⟨hn,Nat.ne_of_gt (Nat.lt_of_lt_of_le I.lt hb),I.nofs hb,.inr (Nat.le_trans I.sz hb),λx c e z=>?_,λp hp z=>?_⟩
 ·obtain⟨v,q⟩:=I.cell x c e;exact absurd (Nat.lt_of_lt_of_le q.lt (by rw[z];exact hb)) (Nat.lt_irrefl _)
 ·exact absurd (Nat.lt_of_lt_of_le (Heap.lt_size (I.pin p hp).1) (by rw[z];exact hb)) (Nat.lt_irrefl _)
structure Turn(P:Program)(w:World)(K:W.Frag)(tg:Expr)(J:It)(fp:List Addr)(it:Addr)(tn:Nat->Heap->Prop):Prop where
 mem:it∈fp
 obj:∀i h,tn i h->∀b∈fp,∃o,h.get? b=some o/\∀v,o.data≠.cell v
 keep:∀i h h',tn i h->(∀b∈fp,∀o,h.get? b=some o->h'.get? b=some o)->tn i h'
 item:∀(X:Cx),X.prog=P->X.w=w->X.K=K->X.calm=true->∀(i:Nat) (pins:List (Addr×Obj)) (s:Shared) (σ:St) (H:Hp) (E:Value->Shared->Prop),Inv X pins σ H s->(∀b∈fp,FpOk X pins H b)->tn i s.heap->J.go i H->
  wpAny (model P w) X.A (pyNext (.ref it)) (λr s1=>∃u,r=some u/\
   wpAny (model P w) X.A (letOwnedTupleGo tg (.ref it) u) (λ_ s2=>∃x H',Inv X pins σ H' s2/\RelV x u/\J.yld i H x H'/\tn (i+1) s2.heap/\∀b∈fp,H' b=none) E s1) E s
 done:∀(X:Cx),X.prog=P->X.w=w->X.K=K->X.calm=true->∀(i:Nat) (pins:List (Addr×Obj)) (s:Shared) (σ:St) (H:Hp) (E:Value->Shared->Prop),Inv X pins σ H s->(∀b∈fp,FpOk X pins H b)->tn i s.heap->J.stop i H->
  wpAny (model P w) X.A (pyNext (.ref it)) (λr s1=>r=none/\Inv X pins σ H s1) E s
 self:∀(A:Around) (i:Nat) (s:Shared) (Q:Value->Shared->Prop) (E:Value->Shared->Prop),tn i s.heap->Q (.ref it) s->wpAny (model P w) A (pyIter (.ref it)) Q E s
abbrev TI:=St->Hp->(It->Hp->Prop)->Prop
def PIE(X:Cx)(pins:List (Addr×Obj))(σ:St)(tg:Expr)(R:It->Hp->Prop)(itv:Value)(s2:Shared):Prop:=
 ∃(it:Addr) (fp:List Addr) (tn:Nat->Heap->Prop) (J:It) (H':Hp),itv= .ref it/\Inv X pins σ H' s2/\Turn X.prog X.w X.K tg J fp it tn/\tn 0 s2.heap/\(∀b∈fp,FpOk X pins H' b)/\R J H'
def PI(X:Cx)(tg iter:Expr)(wi:TI):Prop:=
 ∀(pins:List (Addr×Obj)) (s:Shared) (σ:St) (H:Hp) (R:It->Hp->Prop),Inv X pins σ H s->wi σ H R->
  wpAny (model X.prog X.w) X.A (eval iter X.env) (λv s1=>wpAny (model X.prog X.w) X.A (pyIter v) (PIE X pins σ tg R) X.xe s1) X.xe s
theorem go_of{M:Model}{A:Around}{E:Value->Shared->Prop}{s:Shared}{tg:Expr}{it:Addr}{u:Value}{o:Obj}{n:String}{vs:Array Value}{Q:Unit->Shared->Prop}(ho:s.heap.get? it=some o)(hc:o.cls= .type n)(hd:o.data= .fields vs)
 (hn:["enumerate","zip","dict_itemiterator","dict_reverseitemiterator","odict_iterator","itertools.zip_longest","itertools.pairwise"].contains n=false)(hQ:Q () s):wpAny M A (letOwnedTupleGo tg (.ref it) u) Q E s:=by
 unfold letOwnedTupleGo;cases tg<;>first
  |exact wpAny_pure hQ
  |(cases u<;>first
    |exact wpAny_pure hQ
    |(refine wpAny_bind (wpAny_load ho ?_);rw[hc,hd];show wpAny M A (if (["enumerate","zip","dict_itemiterator","dict_reverseitemiterator","odict_iterator","itertools.zip_longest","itertools.pairwise"].contains n&&vs[0]?==some (rawInt _))=true then _ else _) Q E s;rw[if_neg (by intro h;rw[hn,Bool.false_and] at h;cases h)];exact wpAny_pure hQ))
noncomputable def Itl(K:W.Frag)(a:Addr):It:=
 ⟨λi H=>∃xs x,SqL K H a xs/\xs[i]?=some x,λi H x H'=>H'=H/\∀xs,SqL K H a xs->xs[i]?=some x,λi H=>∃xs,SqL K H a xs/\xs.length<=i⟩
noncomputable def Itt(K:W.Frag)(a:Addr):It:=
 ⟨λi H=>∃xs x,SqT K H a xs/\xs[i]?=some x,λi H x H'=>H'=H/\∀xs,SqT K H a xs->xs[i]?=some x,λi H=>∃xs,SqT K H a xs/\xs.length<=i⟩
noncomputable def Itr(lo:Int)(n:Nat):It:=⟨λi _=>i<n,λi H x H'=>H'=H/\x= .int (lo+i),λi _=>n<=i⟩
theorem turn_list{P:Program}{w:World}{K:W.Frag}{tg:Expr}(a it:Addr):Turn P w K tg (Itl K a) [it] it (λi h=>h.IsListIter it a i) where
 mem:=by simp
 obj:=λi h st b hb=>by
  have e:b=it:=by simpa using hb
  subst e;obtain⟨o,e,c,d⟩:=st;exact⟨o,e,λv z=>by rw[d] at z;cases z⟩
 keep:=λi h h' st k=>st.at λo e=>k it (by simp) o e
 item:=by
  intro X hP hw hK hc i pins s σ H E I hf st hg;subst hP hw hK;obtain⟨xs,x,hq,hx⟩:=hg;obtain⟨its,rv,p,hz⟩:=I.list hq;obtain⟨u,hu,ru⟩:=rv.get hx;obtain⟨f0,f1,f2,f3,f4,f5⟩:=hf it (by simp);refine wpAny_pyNext_list_item st p.isList (x:=u) (by simpa using hu) λh' st' sb=>?_;have I1:Inv X pins σ H {s with heap:=h'}:=I.turned (t':=s.toks) (λb o hb e=>(sb.2 b hb).trans e) f0 f1 f3 f4 f5;obtain⟨o,e,c,d⟩:=id st';exact⟨u,rfl,go_of (s:={s with heap:=h'}) e c d (by decide) ⟨x,H,I1,ru,⟨rfl,λys hy=>by rw[I.list_inj hy hq];exact hx⟩,st',λb hb=>(hf b hb).1⟩⟩
 done:=by
  intro X hP hw hK hc i pins s σ H E I hf st hg;subst hP hw hK;obtain⟨xs,hq,hx⟩:=hg;obtain⟨its,rv,p,hz⟩:=I.list hq;obtain⟨f0,f1,f2,f3,f4,f5⟩:=hf it (by simp);have hl:=rv.length;exact wpAny_pyNext_list_end (I.ok.hd hc) st p.isList (by simp;omega) λh' eb=>⟨rfl,I.turned (t':=s.toks) (λb o hb e=>eb b o hb e) f0 f1 f3 f4 f5⟩
 self:=λ_ _ _ _ _ st h=>wpAny_pyIter_listiter st h
theorem turn_tuple{P:Program}{w:World}{K:W.Frag}{tg:Expr}(a it:Addr):Turn P w K tg (Itt K a) [it] it (λi h=>h.IsTupleIter it a i) where
 mem:=by simp
 obj:=λi h st b hb=>by
  have e:b=it:=by simpa using hb
  subst e;obtain⟨o,e,c,d⟩:=st;exact⟨o,e,λv z=>by rw[d] at z;cases z⟩
 keep:=λi h h' st k=>st.at λo e=>k it (by simp) o e
 item:=by
  intro X hP hw hK hc i pins s σ H E I hf st hg;subst hP hw hK;obtain⟨xs,x,hq,hx⟩:=hg;obtain⟨its,rv,p,hz⟩:=I.tuple hq;obtain⟨u,hu,ru⟩:=rv.get hx;obtain⟨f0,f1,f2,f3,f4,f5⟩:=hf it (by simp);refine wpAny_pyNext_tuple_item st (show s.heap.IsTuple a its.toArray from p) (x:=u) (by simpa using hu) λh' st' sb=>?_;have I1:Inv X pins σ H {s with heap:=h'}:=I.turned (t':=s.toks) (λb o hb e=>(sb.2 b hb).trans e) f0 f1 f3 f4 f5;obtain⟨o,e,c,d⟩:=id st';exact⟨u,rfl,go_of (s:={s with heap:=h'}) e c d (by decide) ⟨x,H,I1,ru,⟨rfl,λys hy=>by rw[I.tuple_inj hy hq];exact hx⟩,st',λb hb=>(hf b hb).1⟩⟩
 done:=by
  intro X hP hw hK hc i pins s σ H E I hf st hg;subst hP hw hK;obtain⟨xs,hq,hx⟩:=hg;obtain⟨its,rv,p,hz⟩:=I.tuple hq;obtain⟨f0,f1,f2,f3,f4,f5⟩:=hf it (by simp);have hl:=rv.length;exact wpAny_pyNext_tuple_end (I.ok.hd hc) st (show s.heap.IsTuple a its.toArray from p) (by simp;omega) λh' eb=>⟨rfl,I.turned (t':=s.toks) (λb o hb e=>eb b o hb e) f0 f1 f3 f4 f5⟩
 self:=λ_ _ _ _ _ st h=>wpAny_pyIter_tupleiter st h
theorem turn_range{P:Program}{w:World}{K:PySem.W.Frag}{tg:Expr}(it:Addr)(lo:Int)(n:Nat):Turn P w K tg (Itr lo n) [it] it (λi h=>IsRangeIter h it (lo+(i:Nat) * 1) ((n:Int)-(i:Nat)) 1) where
 mem:=by simp
 obj:=λi h st b hb=>by
  have e:b=it:=by simpa using hb
  subst e;exact⟨_,st,λv z=>by
   have z':Data.fields _=Data.cell v:=z;cases z'⟩
 keep:=λi h h' st k=>k it (by simp) _ st
 item:=by
  intro X hP hw hK hc i pins s σ H E I hf st hg;subst hP hw hK;obtain⟨f0,f1,f2,f3,f4,f5⟩:=hf it (by simp);have W:=Walks.range (prog:=X.prog) (w:=X.w) (I.ok.hd hc) it lo 1 n;refine W.item i s _ _ hg st λv h' tk hv st' kk=>?_;obtain⟨t,rfl⟩:=hv;have I1:Inv X pins σ H {s with heap:=h',toks:=tk}:=I.turned (λb o hb e=>kk b o (by simpa using hb) e) f0 f1 f3 f4 f5;refine⟨_,rfl,go_of (s:={s with heap:=h',toks:=tk}) (n:="range_iterator") st' rfl rfl (by decide) ⟨.int (lo+i),H,I1,⟨t,?_⟩,⟨rfl,rfl⟩,st',λb hb=>(hf b hb).1⟩⟩;rw[Int.mul_one]
 done:=by
  intro X hP hw hK hc i pins s σ H E I hf st hg;subst hP hw hK;obtain⟨f0,f1,f2,f3,f4,f5⟩:=hf it (by simp);exact wpAny_pyNext_range_end (I.ok.hd hc) st (by have:n<=i:=hg;omega) λh' eb=>⟨rfl,I.turned (t':=s.toks) (λb o hb e=>eb b o hb e) f0 f1 f3 f4 f5⟩
 self:=λ_ _ _ _ _ st h=>wpAny_pyIter_rangeiter st h
end L2
namespace L2
open PySem PySem.Spec PyProof.Rows
section
variable {X:Cx}{tg:Expr}
def iList(K:W.Frag)(tl:TE):TI:=λσ H R=>tl σ H λx H1=>∃a,x= .ref a/\(∃xs,SqL K H1 a xs)/\R (Itl K a) H1
def iTup(K:W.Frag)(tl:TE):TI:=λσ H R=>tl σ H λx H1=>∃a,x= .ref a/\(∃xs,SqT K H1 a xs)/\R (Itt K a) H1
theorem Ty{l:Expr}{tl:TE}(hl:PE X l tl):PI X tg l (iList X.K tl):=by
 intro pins s σ H R I h;refine thn (hl pins s σ H _ I h) λv s1 ⟨x,H1,I1,r1,q1⟩=>?_;obtain⟨a,e,⟨xs,hq⟩,q⟩:=q1;subst e;cases r1;obtain⟨its,rv,p,hz⟩:=I1.list hq;refine wpAny_pyIter_list p.isList ?_;refine⟨s1.heap.objs.size,[s1.heap.objs.size],_,_,H1,rfl,I1.kept (t':=s1.toks) λb o e=>Heap.get?_push_of_some _ e,turn_list a _,⟨_,Heap.get?_push_size _ rfl,rfl,rfl⟩,λb hb=>?_,q⟩;have e:b=s1.heap.objs.size:=by simpa using hb
 subst e;exact I1.fpOk (Nat.le_refl _) (I1.hok.fresh (Nat.le_refl _))
theorem pi_tup{l:Expr}{tl:TE}(hl:PE X l tl):PI X tg l (iTup X.K tl):=by
 intro pins s σ H R I h;refine thn (hl pins s σ H _ I h) λv s1 ⟨x,H1,I1,r1,q1⟩=>?_;obtain⟨a,e,⟨xs,hq⟩,q⟩:=q1;subst e;cases r1;obtain⟨its,rv,p,hz⟩:=I1.tuple hq;refine wpAny_pyIter_tuple (show s1.heap.IsTuple a its.toArray from p) ?_;refine⟨s1.heap.objs.size,[s1.heap.objs.size],_,_,H1,rfl,I1.kept (t':=s1.toks) λb o e=>Heap.get?_push_of_some _ e,turn_tuple a _,⟨_,Heap.get?_push_size _ rfl,rfl,rfl⟩,λb hb=>?_,q⟩;have e:b=s1.heap.objs.size:=by simpa using hb
 subst e;exact I1.fpOk (Nat.le_refl _) (I1.hok.fresh (Nat.le_refl _))
theorem range_it{pins:List (Addr×Obj)}{σ:St}{H:Hp}{s:Shared}{R:It->Hp->Prop}{E:Value->Shared->Prop}{lo hi:Int}{t u v:Tok}{tk:Nat}(I:Inv X pins σ H s)(h1: -(2 ^ 62)<=lo)(h2:lo<2 ^ 62)(h3: -(2 ^ 62)<=hi)(h4:hi<2 ^ 62)
 (q:R (Itr lo (hi-lo).toNat) H):wpAny (model X.prog X.w) X.A (pyIter (.ref s.heap.objs.size)) (PIE X pins σ tg R) E {s with heap:=s.heap.push {cls:=.type "range",data:=.fields #[.int lo t,.int hi u,.int 1 v]},toks:=tk}:=by
 refine wpAny_pyIter_range (IsRange.new ..) (small_one h1 h2 h3 h4) ?_;have I1:Inv X pins σ H {s with heap:=s.heap.push {cls:=.type "range",data:=.fields #[.int lo t,.int hi u,.int 1 v]},toks:=tk}:=I.kept λb o e=>Heap.get?_push_of_some _ e;refine⟨(s.heap.push {cls:=.type "range",data:=.fields #[.int lo t,.int hi u,.int 1 v]}).objs.size,[(s.heap.push {cls:=.type "range",data:=.fields #[.int lo t,.int hi u,.int 1 v]}).objs.size],_,_,H,rfl,
  I1.kept (t':=tk) λb o e=>Heap.get?_push_of_some _ e,turn_range _ lo (hi-lo).toNat,?_,λb hb=>?_,q⟩
 ·have e1:lo+((0:Nat):Int) * 1=lo:=by simp
  have e2:(((hi-lo).toNat:Nat):Int)-((0:Nat):Int)=Builtin.Range.rangeSize lo hi 1:=by rw[rangeSize_one];split<;>omega
  show IsRangeIter _ _ (lo+((0:Nat):Int) * 1) ((((hi-lo).toNat:Nat):Int)-((0:Nat):Int)) 1;rw[e1,e2];exact Heap.get?_push_size _ rfl
 ·have e:b=(s.heap.push {cls:=.type "range",data:=.fields #[.int lo t,.int hi u,.int 1 v]}).objs.size:=by simpa using hb
  subst e;exact I1.fpOk (Nat.le_refl _) (I1.hok.fresh (Nat.le_refl _))
def iRng1(ta:TA):TI:=λσ H R=>ta σ H λvs H1=>∃j:Int,vs=[.int j]/\ -(2 ^ 62)<=j/\j<2 ^ 62/\R (Itr 0 j.toNat) H1
def iRng2(ta:TA):TI:=λσ H R=>ta σ H λvs H1=>∃i j:Int,vs=[.int i,.int j]/\(-(2 ^ 62)<=i/\i<2 ^ 62/\ -(2 ^ 62)<=j/\j<2 ^ 62)/\R (Itr i (j-i).toNat) H1
theorem Sk{a:Expr}{ta:TA}{p pos:Pos}(hg:Gl X "range")(hm:X.mg "range"=none)(ha:PA X [a] ta)(hs:starEach [a] X.env=[(false,eval a X.env)]:=by rfl):PI X tg (.Call (.Name "range" p) [a] [] pos) (iRng1 ta):=by
 intro pins s σ H R I h;refine Call_ (Tn I hg hm boot_range (PyProof.Rows.callWith_type1 (thn (ha pos pins s σ H _ I h) λus s1 ⟨vs,H1,I1,r1,q1⟩=>?_) hs rfl));obtain⟨j,e,q1,q2,q⟩:=q1;subst e;cases r1 with
 |cons r rr=>
  cases rr;obtain⟨t,rfl⟩:=r;exact call_range_1 (range_it I1 (by omega) (by omega) q1 q2 (by simpa using q))
theorem pi_range2{a b:Expr}{ta:TA}{p pos:Pos}(hg:Gl X "range")(hm:X.mg "range"=none)(ha:PA X [a,b] ta)(hs:starEach [a,b] X.env=[(false,eval a X.env),(false,eval b X.env)]:=by rfl)(hs2:starEach [b] X.env=[(false,eval b X.env)]:=by rfl):
  PI X tg (.Call (.Name "range" p) [a,b] [] pos) (iRng2 ta):=by
 intro pins s σ H R I h;refine Call_ (Tn I hg hm boot_range (PyProof.Rows.callWith_type1 (thn (ha pos pins s σ H _ I h) λus s1 ⟨vs,H1,I1,r1,q1⟩=>?_) (by rw[hs,hs2]) (by rw[hs2];rfl)));obtain⟨i,j,e,⟨q1,q2,q3,q4⟩,q⟩:=q1;subst e;cases r1 with
 |cons r rr=>
  cases rr with
  |cons r' rr=>
   cases rr;obtain⟨t,rfl⟩:=r;obtain⟨t',rfl⟩:=r';exact call_range_2 (range_it I1 q1 q2 q3 q4 q)
def tFor(wi:TI)(g:TG)(tb:TS):TS:=λD σ H=>wi σ H λJ H1=>∃W:Nat->Nat->St->Hp->Prop,(∃m,W 0 m σ H1)/\∀i m σ H,W i m σ H->
 (J.stop i H/\D.nx σ H)\/(J.go i H/\∃N:St->Hp->Prop,(∀σ' H',N σ' H'->∃m',m'<m/\W (i+1) m' σ' H')/\∀x H',J.yld i H x H'->g x σ H' λσ2 H2=>tb {D with nx:=N,ct:=N,bk:=D.nx} σ2 H2)
noncomputable def Th(fp:List Addr)(h:Heap):List (Addr×Obj):=fp.filterMap λb=>(h.get? b).map λo=>(b,o)
theorem Tl{fp:List Addr}{h:Heap}{b:Addr}{o:Obj}(hb:b∈fp)(e:h.get? b=some o):(b,o)∈Th fp h:=List.mem_filterMap.mpr ⟨b,hb,by rw[e];rfl⟩
theorem Qr{fp:List Addr}{h:Heap}{p:Addr×Obj}(hp:p∈Th fp h):p.1∈fp/\h.get? p.1=some p.2:=by
 obtain⟨b,hb,e⟩:=List.mem_filterMap.mp hp;cases q:h.get? b with
 |none=>rw[q] at e;cases e
 |some o=>
  rw[q] at e;have e':(b,o)=p:=Option.some.inj e;subst e';exact⟨hb,q⟩
theorem Inv.pinned{pins:List (Addr×Obj)}{σ:St}{H:Hp}{s:Shared}{fp:List Addr}(I:Inv X pins σ H s)(hf:∀b∈fp,FpOk X pins H b)(ho:∀b∈fp,∃o,s.heap.get? b=some o/\∀v,o.data≠.cell v):Inv X (pins++Th fp s.heap) σ H s:=
 I.pins_of λp hp=>(List.mem_append.mp hp).elim (λz=>I.pin p (List.mem_append_right _ z)) λz=>by
  obtain⟨hb,e⟩:=Qr z;obtain⟨f0,f1,f2,_⟩:=hf p.1 hb;obtain⟨o,e',d⟩:=ho p.1 hb;rw[e] at e';cases e';exact⟨e,f0,f1,f2,d⟩
theorem Inv.unpinned{pins pl:List (Addr×Obj)}{σ:St}{H:Hp}{s:Shared}(I:Inv X (pins++pl) σ H s):Inv X pins σ H s:=I.pins_of λp hp=>I.pin p (List.mem_append_right _ (List.mem_append_left _ hp))
theorem Vx{iter:Expr}{body:List Stmt}{wi:TI}{g:TG}{tb:TS}{pos:Pos}(hp:PassesOwn (model X.prog X.w) X.A X.env X.xe)(hc:X.calm=true)(hi:PI X tg iter wi)(hg:PG X tg g)(hb:PSs X body tb)
 (hs:∀x,foldedSetIterable iter X.env x=pure x:=by intro _;rfl):PS X (.For tg iter body [] pos) (tFor wi g tb):=by
 intro pins s σ H D I h;refine wpAny_For (thn (hi pins s σ H _ I h) λv s1 h1=>thn h1 λitv s2 h2=>?_) hs;obtain⟨it,fp,tn,J,H2,e,I2,T,st2,f2,W,⟨m0,w0⟩,turn⟩:=h2;subst e;have stat:∀{H':Hp},(∀b∈fp,H' b=none)->∀b∈fp,FpOk X pins H' b:=λhn b hb=>⟨hn b hb,(f2 b hb).2⟩;refine codeAny_forLoop_any (λn s'=>∃i σ' H',Inv X pins σ' H' s'/\tn i s'.heap/\(∀b∈fp,H' b=none)/\W i n σ' H') ?_ m0 ⟨0,σ,H2,I2,st2,λb hb=>(f2 b hb).1,w0⟩;rintro n s3 ⟨i,σ3,H3,I3,st3,fr3,w3⟩;rcases turn i n σ3 H3 w3 with ⟨stop,qn⟩|⟨go,N,hN,step⟩
 ·refine wpAny_passesOwn hp (thn (T.done X rfl rfl rfl hc i pins s3 σ3 H3 X.xe I3 (stat fr3) st3 stop) λr s4 ⟨hr,I4⟩=>?_);subst hr;exact wpAny_execs_nil ⟨σ3,H3,I4,qn⟩
 ·refine wpAny_passesOwn hp (thn (T.item X rfl rfl rfl hc i pins s3 σ3 H3 X.xe I3 (stat fr3) st3 go) λr s4 ⟨u,hr,h4⟩=>?_);subst hr;refine wpAny_passesOwn hp (thn h4 λ_ s5 ⟨x,H5,I5,r5,y5,st5,fr5⟩=>?_);have I5':=I5.pinned (stat fr5) (T.obj _ _ st5);refine wpAny_passesOwn hp (thn (hg _ s5 σ3 H5 x u _ I5' r5 (step x H5 y5)) λ_ s6 ⟨σ6,H6,I6,q6⟩=>?_);refine wpAny_passesOwn hp (thn (hb _ s6 σ6 H6 _ I6 q6) λf s7 q7=>?_);have again:∀{σ7:St} {H7:Hp},Inv X (pins++Th fp s5.heap) σ7 H7 s7->N σ7 H7->∃m,m<n/\∃i σ' H',Inv X pins σ' H' s7/\tn i s7.heap/\(∀b∈fp,H' b=none)/\W i m σ' H':=λ{σ7 H7} I7 n7=>by
   obtain⟨m',hm,w7⟩:=hN σ7 H7 n7;refine⟨m',hm,i+1,σ7,H7,I7.unpinned,T.keep _ _ _ st5 λb hb o e=>(I7.pin (b,o) (List.mem_append_right _ (List.mem_append_right _ (Tl hb e)))).1,λb hb=>?_,w7⟩;obtain⟨o,e,d⟩:=T.obj _ _ st5 b hb;exact(I7.pin (b,o) (List.mem_append_right _ (List.mem_append_right _ (Tl hb e)))).2.1
  cases f with
  |next=>obtain⟨σ7,H7,I7,n7⟩:=q7;exact again I7 n7
  |cont=>obtain⟨σ7,H7,I7,n7⟩:=q7;exact again I7 n7
  |brk=>obtain⟨σ7,H7,I7,q7⟩:=q7;exact⟨σ7,H7,I7.unpinned,q7⟩
  |ret v=>obtain⟨x7,σ7,H7,I7,r7,q7⟩:=q7;exact⟨x7,σ7,H7,I7.unpinned,r7,q7⟩
end
theorem RO{K:PySem.W.Frag}{a:Addr}{xs:List V}{g:TG}{tb:TS}{D:Ends}{σ:St}{H:Hp}(Pv:Nat->St->Hp->Prop)(h0:Pv 0 σ H)(hl:∀i σ H,i<=xs.length->Pv i σ H->SqL K H a xs)
 (hs:∀i x σ H,xs[i]?=some x->Pv i σ H->g x σ H λσ2 H2=>tb {D with nx:=Pv (i+1),ct:=Pv (i+1),bk:=D.nx} σ2 H2)(hd:∀σ H,Pv xs.length σ H->D.nx σ H):
  ∃W:Nat->Nat->St->Hp->Prop,(∃m,W 0 m σ H)/\∀i m σ H,W i m σ H->
   ((Itl K a).stop i H/\D.nx σ H)\/((Itl K a).go i H/\∃N:St->Hp->Prop,(∀σ' H',N σ' H'->∃m',m'<m/\W (i+1) m' σ' H')/\∀x H',(Itl K a).yld i H x H'->g x σ H' λσ2 H2=>tb {D with nx:=N,ct:=N,bk:=D.nx} σ2 H2):=by
 refine⟨λi m σ H=>m=xs.length-i/\i<=xs.length/\Pv i σ H,⟨xs.length,by simp,Nat.zero_le _,h0⟩,?_⟩;rintro i m σ H ⟨rfl,hi,p⟩;have q:=hl i σ H hi p;by_cases hlt:i<xs.length
 ·refine .inr ⟨⟨xs,xs[i],q,by simp[hlt]⟩,Pv (i+1),λσ' H' p'=>⟨xs.length-(i+1),by omega,rfl,hlt,p'⟩,λx H' y=>?_⟩;obtain⟨e,y⟩:=y;subst e;exact hs i x σ _ (y xs q) p
 ·have e:i=xs.length:=by omega
  subst e;exact .inl ⟨⟨xs,q,Nat.le_refl _⟩,hd σ H p⟩
theorem for_tup{K:PySem.W.Frag}{a:Addr}{xs:List V}{g:TG}{tb:TS}{D:Ends}{σ:St}{H:Hp}(Pv:Nat->St->Hp->Prop)(h0:Pv 0 σ H)(hl:∀i σ H,i<=xs.length->Pv i σ H->SqT K H a xs)
 (hs:∀i x σ H,xs[i]?=some x->Pv i σ H->g x σ H λσ2 H2=>tb {D with nx:=Pv (i+1),ct:=Pv (i+1),bk:=D.nx} σ2 H2)(hd:∀σ H,Pv xs.length σ H->D.nx σ H):
  ∃W:Nat->Nat->St->Hp->Prop,(∃m,W 0 m σ H)/\∀i m σ H,W i m σ H->
   ((Itt K a).stop i H/\D.nx σ H)\/((Itt K a).go i H/\∃N:St->Hp->Prop,(∀σ' H',N σ' H'->∃m',m'<m/\W (i+1) m' σ' H')/\∀x H',(Itt K a).yld i H x H'->g x σ H' λσ2 H2=>tb {D with nx:=N,ct:=N,bk:=D.nx} σ2 H2):=by
 refine⟨λi m σ H=>m=xs.length-i/\i<=xs.length/\Pv i σ H,⟨xs.length,by simp,Nat.zero_le _,h0⟩,?_⟩;rintro i m σ H ⟨rfl,hi,p⟩;have q:=hl i σ H hi p;by_cases hlt:i<xs.length
 ·refine .inr ⟨⟨xs,xs[i],q,by simp[hlt]⟩,Pv (i+1),λσ' H' p'=>⟨xs.length-(i+1),by omega,rfl,hlt,p'⟩,λx H' y=>?_⟩;obtain⟨e,y⟩:=y;subst e;exact hs i x σ _ (y xs q) p
 ·have e:i=xs.length:=by omega
  subst e;exact .inl ⟨⟨xs,q,Nat.le_refl _⟩,hd σ H p⟩
theorem UU{lo:Int}{n:Nat}{g:TG}{tb:TS}{D:Ends}{σ:St}{H:Hp}(Pv:Nat->St->Hp->Prop)(h0:Pv 0 σ H)
 (hs:∀i σ H,i<n->Pv i σ H->g (.int (lo+i)) σ H λσ2 H2=>tb {D with nx:=Pv (i+1),ct:=Pv (i+1),bk:=D.nx} σ2 H2)(hd:∀σ H,Pv n σ H->D.nx σ H):
  ∃W:Nat->Nat->St->Hp->Prop,(∃m,W 0 m σ H)/\∀i m σ H,W i m σ H->
   ((Itr lo n).stop i H/\D.nx σ H)\/((Itr lo n).go i H/\∃N:St->Hp->Prop,(∀σ' H',N σ' H'->∃m',m'<m/\W (i+1) m' σ' H')/\∀x H',(Itr lo n).yld i H x H'->g x σ H' λσ2 H2=>tb {D with nx:=N,ct:=N,bk:=D.nx} σ2 H2):=by
 refine⟨λi m σ H=>m=n-i/\i<=n/\Pv i σ H,⟨n,by simp,Nat.zero_le _,h0⟩,?_⟩;rintro i m σ H ⟨rfl,hi,p⟩;by_cases hlt:i<n
 ·refine .inr ⟨hlt,Pv (i+1),λσ' H' p'=>⟨n-(i+1),by omega,rfl,hlt,p'⟩,λx H' y=>?_⟩;obtain⟨e,y⟩:=y;subst e y;exact hs i σ _ hlt p
 ·have e:i=n:=by omega
  subst e;exact .inl ⟨Nat.le_refl _,hd σ H p⟩
end L2
namespace L2
open PySem PySem.Spec PyProof.Rows
abbrev R2:=V->V->Hp->VK->Prop
def OpR(X:Cx)(f:Value->Value->Sem Value)(r:R2):Prop:=
 ∀(pins:List (Addr×Obj)) (s:Shared) (σ:St) (H:Hp) (x y:V) (v u:Value) (Q:VK),Inv X pins σ H s->RelV x v->RelV y u->r x y H Q->
  wpAny (model X.prog X.w) X.A (f v u) (EP X pins σ Q) X.xe s
def UnR(X:Cx)(f:Value->Sem Value)(r:V->Hp->VK->Prop):Prop:=
 ∀(pins:List (Addr×Obj)) (s:Shared) (σ:St) (H:Hp) (x:V) (v:Value) (Q:VK),Inv X pins σ H s->RelV x v->r x H Q->
  wpAny (model X.prog X.w) X.A (f v) (EP X pins σ Q) X.xe s
def VB(X:Cx)(f:Value)(r:List V->Hp->VK->Prop):Prop:=
 ∀(pins:List (Addr×Obj)) (s:Shared) (σ:St) (H:Hp) (xs:List V) (us:List Value) (Q:VK),Inv X pins σ H s->Vals xs us->r xs H Q->
  wpAny (model X.prog X.w) X.A (call f us) (EP X pins σ Q) X.xe s
def TruR(X:Cx)(r:V->Hp->(Bool->Hp->Prop)->Prop):Prop:=
 ∀(pins:List (Addr×Obj)) (s:Shared) (σ:St) (H:Hp) (x:V) (v:Value) (Q:Bool->Hp->Prop),Inv X pins σ H s->RelV x v->r x H Q->
  wpAny (model X.prog X.w) X.A (truthy v) (TP X pins σ Q) X.xe s
def tOp(r:R2)(ta tb:TE):TE:=λσ H Q=>ta σ H λx H1=>tb σ H1 λy H2=>r x y H2 Q
def tUn(r:V->Hp->VK->Prop)(ta:TE):TE:=λσ H Q=>ta σ H λx H1=>r x H1 Q
def rI(C:Int->Int->Prop)(g:Int->Int->V):R2:=λx y H Q=>∃i j,x= .int i/\y= .int j/\C i j/\Q (g i j) H
def rI0(g:Int->Int->V):R2:=λx y H Q=>∃i j,x= .int i/\y= .int j/\Q (g i j) H
def rU(g:Int->V):V->Hp->VK->Prop:=λx H Q=>∃i,x= .int i/\Q (g i) H
section
variable {X:Cx}{a b c:Expr}{ta tb tc:TE}{pos:Pos}
theorem binT(ha:PE X a ta)(hb:PE X b tb){pins:List (Addr×Obj)}{s:Shared}{σ:St}{H:Hp}{R:V->V->Hp->Prop}(I:Inv X pins σ H s)
 (h:ta σ H λx H1=>tb σ H1 λy H2=>R x y H2){Q:Value->Shared->Prop}{f:Value->Value->Sem Value}
 (hf:∀v u s2 x y H2,Inv X pins σ H2 s2->RelV x v->RelV y u->R x y H2->wpAny (model X.prog X.w) X.A (f v u) Q X.xe s2):
  wpAny (model X.prog X.w) X.A (eval a X.env) (λv s₁=>wpAny (model X.prog X.w) X.A (eval b X.env) (λu s₂=>wpAny (model X.prog X.w) X.A (f v u) Q X.xe s₂) X.xe s₁) X.xe s:=by
 refine thn (ha pins s σ H _ I h) λv s1 ⟨x,H1,I1,r1,q1⟩=>?_;refine thn (hb pins s1 σ H1 _ I1 q1) λu s2 ⟨y,H2,I2,r2,q2⟩=>?_;exact hf v u s2 x y H2 I2 r1 r2 q2
theorem Zp{op:Operator}{r:R2}(ho:OpR X (binaryOp op) r)(ha:PE X a ta)(hb:PE X b tb):PE X (.BinOp a op b pos) (tOp r ta tb):=by
 intro pins s σ H Q I h;exact wpAny_BinOp (binT ha hb I h λv u s2 x y H2 I2 rx ry q=>ho pins s2 σ H2 x y v u Q I2 rx ry q)
theorem pe_un{op:UnaryOp}{r:V->Hp->VK->Prop}(ho:UnR X (unaryOp op) r)(ha:PE X a ta):PE X (.UnaryOp op a pos) (tUn r ta):=by
 intro pins s σ H Q I h;exact UnaryOp_ (thn (ha pins s σ H _ I h) λv s1 ⟨x,H1,I1,r1,q1⟩=>ho pins s1 σ H1 x v Q I1 r1 q1)
theorem opI{f:Value->Value->Sem Value}{C:Int->Int->Prop}{g:Int->Int->Int}
 (rule:∀(i j:Int) (t u:Tok) (s:Shared) (Q:Value->Shared->Prop) (E:Value->Shared->Prop),C i j->Q (.int (g i j) s.toks) {s with toks:=s.toks+1}->wpAny (model X.prog X.w) X.A (f (.int i t) (.int j u)) Q E s):
  OpR X f (rI C λi j=>.int (g i j)):=by
 intro pins s σ H x y v u Q I rx ry h;obtain⟨i,j,rfl,rfl,hc,q⟩:=h;obtain⟨t,rfl⟩:=rx;obtain⟨t',rfl⟩:=ry;exact rule i j t t' s _ _ hc ⟨.int (g i j),H,I.tok _,⟨_,rfl⟩,q⟩
theorem opI0{f:Value->Value->Sem Value}{g:Int->Int->Int}
 (rule:∀(i j:Int) (t u:Tok) (s:Shared) (Q:Value->Shared->Prop) (E:Value->Shared->Prop),Q (.int (g i j) s.toks) {s with toks:=s.toks+1}->wpAny (model X.prog X.w) X.A (f (.int i t) (.int j u)) Q E s):
  OpR X f (rI0 λi j=>.int (g i j)):=by
 intro pins s σ H x y v u Q I rx ry h;obtain⟨i,j,rfl,rfl,q⟩:=h;obtain⟨t,rfl⟩:=rx;obtain⟨t',rfl⟩:=ry;exact rule i j t t' s _ _ ⟨.int (g i j),H,I.tok _,⟨_,rfl⟩,q⟩
theorem opB0{f:Value->Value->Sem Value}{g:Int->Int->Bool}
 (rule:∀(i j:Int) (t u:Tok) (s:Shared) (Q:Value->Shared->Prop) (E:Value->Shared->Prop),Q (.bool (g i j)) s->wpAny (model X.prog X.w) X.A (f (.int i t) (.int j u)) Q E s):
  OpR X f (rI0 λi j=>.bl (g i j)):=by
 intro pins s σ H x y v u Q I rx ry h;obtain⟨i,j,rfl,rfl,q⟩:=h;obtain⟨t,rfl⟩:=rx;obtain⟨t',rfl⟩:=ry;exact rule i j t t' s _ _ ⟨.bl (g i j),H,I,rfl,q⟩
def CMul(i j:Int):Prop:=(-(2 ^ 64)<i/\i<2 ^ 64)\/(-(2 ^ 64)<j/\j<2 ^ 64)
theorem CMul.ok{i j:Int}(h:CMul i j):IntMulOk i j:=by
 rcases h with ⟨h1,h2⟩|⟨h1,h2⟩
 ·exact .of_left (intBits_le_64 h1 h2)
 ·exact .of_right (intBits_le_64 h1 h2)
theorem ZZ:OpR X (binaryOp .Add) (rI0 λi j=>.int (i+j)):=opI0 λ_ _ _ _ _ _ _ q=>add_int q
theorem Vy:OpR X (binaryOp .Sub) (rI0 λi j=>.int (i-j)):=opI0 λ_ _ _ _ _ _ _ q=>sub_int q
theorem Vh:OpR X (binaryOp .Mult) (rI CMul λi j=>.int (i * j)):=opI λ_ _ _ _ _ _ _ hc q=>mul_int q hc.ok
theorem ZT:OpR X (binaryOp .Mod) (rI (λ_ j=>0<j) λi j=>.int (i % j)):=opI λi j _ _ _ _ _ hc q=>by
 have h1:(0:Int)<j:=hc;exact mod_int' (by omega) (by rw[Int.fmod_eq_emod_of_nonneg i (by omega)];exact q)
theorem unI{f:Value->Sem Value}{g:Int->Int}
 (rule:∀(i:Int) (t:Tok) (s:Shared) (Q:Value->Shared->Prop) (E:Value->Shared->Prop),Q (.int (g i) s.toks) {s with toks:=s.toks+1}->wpAny (model X.prog X.w) X.A (f (.int i t)) Q E s):
  UnR X f (rU λi=>.int (g i)):=by
 intro pins s σ H x v Q I rx h;obtain⟨i,rfl,q⟩:=h;obtain⟨t,rfl⟩:=rx;exact rule i t s _ _ ⟨.int (g i),H,I.tok _,⟨_,rfl⟩,q⟩
theorem un_neg:UnR X (unaryOp .USub) (rU λi=>.int (-i)):=unI λ_ _ _ _ _ q=>neg_int q
end
noncomputable def scal:V->V->Bool
 | .non,.non=>true| .non,.int _=>true| .int _,.non=>true| .non,.bl _=>true| .bl _,.non=>true| .non,.str _=>true| .str _,.non=>true
 | .int _,.int _=>true| .bl _,.bl _=>true| .str _,.str _=>true| .byt _,.byt _=>true
 | .int _,.str _=>true| .str _,.int _=>true| .bl _,.str _=>true| .str _,.bl _=>true
 |_,_=>false
def rEq:R2:=λx y H Q=>scal x y=true/\Q (.bl (decide (x=y))) H
def rNe:R2:=λx y H Q=>scal x y=true/\Q (.bl (!decide (x=y))) H
theorem dec_int{i j:Int}:decide (V.int i=V.int j)=(i==j):=by
 rw[Bool.eq_iff_iff];simp
theorem dec_bl{i j:Bool}:decide (V.bl i=V.bl j)=(i==j):=by
 rw[Bool.eq_iff_iff];simp
theorem dec_str{i j:Str}:decide (V.str i=V.str j)=(i==j):=by
 rw[Bool.eq_iff_iff];simp
theorem dec_byt{i j:Array UInt8}:decide (V.byt i=V.byt j)=(i.toList==j.toList):=by
 rw[Bool.eq_iff_iff];cases i;cases j;simp
section
variable {X:Cx}{a b c:Expr}{ta tb tc:TE}{pos:Pos}
theorem ZN{pins:List (Addr×Obj)}{σ:St}{H:Hp}{s:Shared}{Q:VK}{k k':Bool}(I:Inv X pins σ H s)(q:Q (.bl k) H)(e:k=k'):EP X pins σ Q (.bool k') s:=by
 subst e;exact⟨.bl k,H,I,rfl,q⟩
theorem XF:OpR X (compareOp .Eq) rEq:=by
 intro pins s σ H x y v u Q I rx ry h;obtain⟨hs,q⟩:=h;cases x with
 |non=>
  cases rx;cases y with
  |non=>cases ry;exact PySem.EqNone.eq_none_none (ZN I q (by simp))
  |bl j=>cases ry;exact PySem.EqNone.eq_none_bool (ZN I q (by simp))
  |int j=>obtain⟨t',rfl⟩:=ry;exact PySem.EqNone.eq_none_int (ZN I q (by simp))
  |str j=>obtain⟨t',rfl⟩:=ry;exact PySem.EqNone.eq_none_str (ZN I q (by simp))
  |_=>exact absurd (show false=true from hs) Bool.false_ne_true
 |bl i=>
  cases rx;cases y with
  |non=>cases ry;exact PySem.EqNone.eq_bool_none (ZN I q (by simp))
  |bl j=>cases ry;exact eq_bool (ZN I q dec_bl)
  |str j=>obtain⟨t',rfl⟩:=ry;exact PySem.EqMixed.eq_bool_str (ZN I q (by simp))
  |_=>exact absurd (show false=true from hs) Bool.false_ne_true
 |int i=>
  obtain⟨t,rfl⟩:=rx;cases y with
  |non=>cases ry;exact PySem.EqNone.eq_int_none (ZN I q (by simp))
  |int j=>obtain⟨t',rfl⟩:=ry;exact eq_int (ZN I q dec_int)
  |str j=>obtain⟨t',rfl⟩:=ry;exact PySem.EqMixed.eq_int_str (ZN I q (by simp))
  |_=>exact absurd (show false=true from hs) Bool.false_ne_true
 |str i=>
  obtain⟨t,rfl⟩:=rx;cases y with
  |non=>cases ry;exact PySem.EqNone.eq_str_none (ZN I q (by simp))
  |bl j=>cases ry;exact PySem.EqMixed.eq_str_bool (ZN I q (by simp))
  |int j=>obtain⟨t',rfl⟩:=ry;exact PySem.EqMixed.eq_str_int (ZN I q (by simp))
  |str j=>obtain⟨t',rfl⟩:=ry;exact eq_str (ZN I q dec_str)
  |_=>exact absurd (show false=true from hs) Bool.false_ne_true
 |byt i=>
  obtain⟨t,rfl⟩:=rx;cases y with
  |byt j=>obtain⟨t',rfl⟩:=ry;exact W.eq_bytes (ZN I q dec_byt)
  |_=>exact absurd (show false=true from hs) Bool.false_ne_true
 |_=>cases y<;>exact absurd (show false=true from hs) Bool.false_ne_true
theorem op_ne:OpR X (compareOp .NotEq) rNe:=by
 intro pins s σ H x y v u Q I rx ry h;obtain⟨hs,q⟩:=h;cases x with
 |non=>
  cases rx;cases y with
  |non=>cases ry;exact PySem.EqNone.ne_none_none (ZN I q (by simp))
  |bl j=>cases ry;exact PySem.EqNone.ne_none_bool (ZN I q (by simp))
  |int j=>obtain⟨t',rfl⟩:=ry;exact PySem.EqNone.ne_none_int (ZN I q (by simp))
  |str j=>obtain⟨t',rfl⟩:=ry;exact PySem.EqNone.ne_none_str (ZN I q (by simp))
  |_=>exact absurd (show false=true from hs) Bool.false_ne_true
 |bl i=>
  cases rx;cases y with
  |non=>cases ry;exact PySem.EqNone.ne_bool_none (ZN I q (by simp))
  |bl j=>cases ry;exact ne_bool (ZN I q (congrArg not dec_bl))
  |str j=>obtain⟨t',rfl⟩:=ry;exact PySem.EqMixed.ne_bool_str (ZN I q (by simp))
  |_=>exact absurd (show false=true from hs) Bool.false_ne_true
 |int i=>
  obtain⟨t,rfl⟩:=rx;cases y with
  |non=>cases ry;exact PySem.EqNone.ne_int_none (ZN I q (by simp))
  |int j=>obtain⟨t',rfl⟩:=ry;exact ne_int (ZN I q (congrArg not dec_int))
  |str j=>obtain⟨t',rfl⟩:=ry;exact PySem.EqMixed.ne_int_str (ZN I q (by simp))
  |_=>exact absurd (show false=true from hs) Bool.false_ne_true
 |str i=>
  obtain⟨t,rfl⟩:=rx;cases y with
  |non=>cases ry;exact PySem.EqNone.ne_str_none (ZN I q (by simp))
  |bl j=>cases ry;exact PySem.EqMixed.ne_str_bool (ZN I q (by simp))
  |int j=>obtain⟨t',rfl⟩:=ry;exact PySem.EqMixed.ne_str_int (ZN I q (by simp))
  |str j=>obtain⟨t',rfl⟩:=ry;exact ne_str (ZN I q (congrArg not dec_str))
  |_=>exact absurd (show false=true from hs) Bool.false_ne_true
 |byt i=>
  obtain⟨t,rfl⟩:=rx;cases y with
  |byt j=>obtain⟨t',rfl⟩:=ry;exact W.ne_bytes (ZN I q (congrArg not dec_byt))
  |_=>exact absurd (show false=true from hs) Bool.false_ne_true
 |_=>cases y<;>exact absurd (show false=true from hs) Bool.false_ne_true
theorem Sz:OpR X (compareOp .Lt) (rI0 λi j=>.bl (decide (i<j))):=opB0 λ_ _ _ _ _ _ _ q=>lt_int q
theorem Qp:OpR X (compareOp .LtE) (rI0 λi j=>.bl (decide (i<=j))):=opB0 λ_ _ _ _ _ _ _ q=>le_int q
theorem op_gt:OpR X (compareOp .Gt) (rI0 λi j=>.bl (decide (j<i))):=opB0 λ_ _ _ _ _ _ _ q=>gt_int q
theorem XJ:OpR X (compareOp .Is) (λx y H Q=>y= .non/\Q (.bl (decide (x= .non))) H):=by
 intro pins s σ H x y v u Q I rx ry h;obtain⟨rfl,q⟩:=h;cases ry;refine is_none_gen (ZN I q ?_);cases x<;>first
  |(cases rx;rfl)
  |(obtain⟨t,rfl⟩:=rx;rfl)
theorem Ui:OpR X (compareOp .IsNot) (λx y H Q=>y= .non/\Q (.bl (!decide (x= .non))) H):=by
 intro pins s σ H x y v u Q I rx ry h;obtain⟨rfl,q⟩:=h;cases ry;refine isnot_none_gen (ZN I q ?_);cases x<;>first
  |(cases rx;rfl)
  |(obtain⟨t,rfl⟩:=rx;rfl)
theorem Zz(b:Expr){op:CmpOp}(h:op≠.In:=by decide)(h2:op≠.NotIn:=by decide):behindInMarks op b=false:=by
 have e1:(op==CmpOp.In)=false:=by cases op<;>first|rfl|exact absurd rfl h
 have e2:(op==CmpOp.NotIn)=false:=by cases op<;>first|rfl|exact absurd rfl h2
 cases b<;>simp[behindInMarks,e1,e2]
theorem SZ{op:CmpOp}{r:R2}(ho:OpR X (compareOp op) r)(ha:PE X a ta)(hb:PE X b tb)(hm:behindInMarks op b=false):PE X (.Compare a [op] [b] pos) (tOp r ta tb):=by
 intro pins s σ H Q I h;exact wpAny_Compare1 (binT ha hb I h λv u s2 x y H2 I2 rx ry q=>ho pins s2 σ H2 x y v u Q I2 rx ry q) hm
def tTest(t:TE):TT:=λσ H Q=>t σ H λx H'=>∃k,x= .bl k/\Q k H'
theorem Zq{op:CmpOp}{r:R2}(ho:OpR X (compareOp op) r)(ha:PE X a ta)(hb:PE X b tb)(hm:behindInMarks op b=false):PT X (.Compare a [op] [b] pos) (tTest (tOp r ta tb)):=by
 intro pins s σ H Q I h;refine wpAny_isTrue_Compare1 (thn (ha pins s σ H _ I h) λv s1 ⟨x,H1,I1,r1,q1⟩=>thn (hb pins s1 σ H1 _ I1 q1) λu s2 ⟨y,H2,I2,r2,q2⟩=>
  thn (ho pins s2 σ H2 x y v u _ I2 r1 r2 q2) λc s3 ⟨z,H3,I3,r3,k,e,q3⟩=>?_) hm
 subst e;cases r3;exact wpAny_truthy_bool ⟨H3,I3,q3⟩
def TruV(K:W.Frag)(x:V)(H:Hp)(k:Bool):Prop:=
 match x with
 | .non=>k=false
 | .bl b=>k=b
 | .int i=>k=(i !=0)
 | .str y=>y.length<=sizeLine/\k=((y.length:Int) !=0)
 | .byt y=>y.size<=sizeLine/\k=((y.size:Int) !=0)
 | .ref p=>(∃xs,SqL K H p xs/\k= !xs.isEmpty)\/(∃xs,SqT K H p xs/\k= !xs.isEmpty)\/∃kvs,H p=some (.dK kvs)/\k= !kvs.isEmpty
 |_=>False
theorem isEmpty_kv{κ:Type}{kvs:List (κ×V)}{vs:List (κ×Value)}(r:KV kvs vs):(!vs.isEmpty)= !kvs.isEmpty:=by
 cases r<;>rfl
theorem RM{xs:List V}{its:List Value}(r:Vals xs its):(!its.toArray.isEmpty)= !xs.isEmpty:=by
 cases r<;>simp
theorem Pz:(sizeLine:Nat)<2 ^ 63:=by rw[sizeLine_eq];decide
theorem tru_ok:TruR X (λx H Q=>∃k,TruV X.K x H k/\Q k H):=by
 intro pins s σ H x v Q I rx h;obtain⟨k,e,q⟩:=h;have hl:=Pz;have hs:sizeLine=16777216:=sizeLine_eq;cases x with
 |non=>
  cases rx;have e':k=false:=e;subst e';exact truthy_none ⟨H,I,q⟩
 |bl b=>
  cases rx;have e':k=b:=e;subst e';exact wpAny_truthy_bool ⟨H,I,q⟩
 |int i=>
  obtain⟨t,rfl⟩:=rx;have e':k=(i !=0):=e;subst e';exact PySem.P.truthy_int ⟨H,I,q⟩
 |str y=>
  obtain⟨t,rfl⟩:=rx;obtain⟨hy,e'⟩:y.length<=sizeLine/\k=((y.length:Int) !=0):=e;subst e';exact PySem.P.truthy_str (by omega) ⟨H,I.tok _,q⟩
 |byt y=>
  obtain⟨t,rfl⟩:=rx;obtain⟨hy,e'⟩:y.size<=sizeLine/\k=((y.size:Int) !=0):=e;subst e';exact W.truthy_bytes (by omega) ⟨H,I.tok _,q⟩
 |ref p=>
  cases rx;have e':(∃xs,SqL X.K H p xs/\k= !xs.isEmpty)\/(∃xs,SqT X.K H p xs/\k= !xs.isEmpty)\/∃kvs,H p=some (.dK kvs)/\k= !kvs.isEmpty:=e;rcases e' with ⟨xs,hx,e'⟩|⟨xs,hx,e'⟩|⟨kvs,hx,e'⟩
  ·subst e';obtain⟨its,r,pl,hz⟩:=I.list hx;have hlen:=r.length;exact wpAny_truthy_list pl.isList (by simp only[List.size_toArray];omega) ⟨H,I.tok _,by rw[RM r];exact q⟩
  ·subst e';obtain⟨its,r,pl,hz⟩:=I.tuple hx;have hlen:=r.length;exact truthy_tuple pl (by simp only[List.size_toArray];omega) ⟨H,I.tok _,by rw[RM r];exact q⟩
  ·subst e';obtain⟨hz,hS,vs,r,m⟩:kvs.length<=sizeLine/\(p==sysModules)=false/\∃vs,KV kvs vs/\s.heap.DictOf (ZO X.prog X.w) p vs:=I.hok p _ hx;have hlen:kvs.length=vs.length:=Paired.length r;exact wpAny_truthy_dict hS m (by omega) ⟨H,I.tok _,by rw[isEmpty_kv r];exact q⟩
 |_=>exact(show False from e).elim
theorem Yf(ha:PE X a ta)(he:∀whole,isTrue a X.env whole=(do let v←whole;standAt a.pos;holding [v] (truthy v))):
  PT X a (λσ H Q=>ta σ H λx H'=>∃k,TruV X.K x H' k/\Q k H'):=by
 intro pins s σ H Q I h;exact isTrue_plain (thn (ha pins s σ H _ I h) λv s1 ⟨x,H1,I1,r1,q1⟩=>tru_ok pins s1 σ H1 x v Q I1 r1 q1) (he _)
theorem VQ{x:V}{us:List Value}(r:Vals [x] us):∃u,us=[u]/\RelV x u:=by
 cases r with
 |cons r1 r2=>cases r2;exact⟨_,rfl,r1⟩
theorem vals2{x y:V}{us:List Value}(r:Vals [x,y] us):∃u w',us=[u,w']/\RelV x u/\RelV y w':=by
 cases r with
 |cons r1 r2=>
  cases r2 with
  |cons r3 r4=>cases r4;exact⟨_,_,rfl,r1,r3⟩
theorem call_max2(hc:X.calm=true):VB X (.builtin "max") (λxs H Q=>∃i j,xs=[.int i,.int j]/\Q (.int (if j>i then j else i)) H):=by
 intro pins s σ H xs us Q I r h;obtain⟨i,j,rfl,q⟩:=h;obtain⟨u,w',rfl,⟨t,rfl⟩,⟨t',rfl⟩⟩:=vals2 r;refine max_two_ints (I.ok.hd hc) λh' tk k=>⟨_,H,I.kept k,?_,q⟩;by_cases hj:j>i
 ·rw[if_pos hj,if_pos hj];exact⟨_,rfl⟩
 ·rw[if_neg hj,if_neg hj];exact⟨_,rfl⟩
theorem QJ:VB X (.type "int") (λxs H Q=>(∃i,xs=[.int i]/\Q (.int i) H)\/∃k,xs=[.bl k]/\Q (.int (if k then 1 else 0)) H):=by
 intro pins s σ H xs us Q I r h;rcases h with ⟨i,rfl,q⟩|⟨k,rfl,q⟩
 ·obtain⟨u,rfl,t,rfl⟩:=VQ r;exact call_int_int ⟨.int i,H,I,⟨_,rfl⟩,q⟩
 ·obtain⟨u,rfl,r1⟩:=VQ r;cases r1;exact call_int_bool ⟨.int (if k then 1 else 0),H,I.tok _,⟨_,rfl⟩,q⟩
end
end L2
namespace L2
open PySem PySem.Spec PyProof.Rows
structure ObjM(h:Heap)(x dx C:Addr)(mA:Str->Option Value):Prop where
 obj:h.get? x=some (W.instObj C dx)
 ns:h.Ns1 dx mA
 ne:dx≠x
theorem lookIn_ns{h:Heap}{dx:Addr}{mA:Str->Option Value}(n:h.Ns1 dx mA):∃od,h.get? dx=some od/\∀name,W.lookIn name od=some (mA name):=by
 obtain⟨o,es,ep,ho,hd,hk,_,hm⟩:=n;refine⟨o,ho,λname=>?_⟩;have e:=hm name;unfold nsFind findBy at e;rw[←Array.find?_toList] at e;unfold W.lookIn;rw[hd];dsimp only;split
 ·rename_i y q
  rw[q] at e;exact congrArg some e
 ·rename_i q
  rw[q] at e;have a:es.toList.any (·.refKey)=false:=by
   rw[List.any_eq_false];intro y hy;obtain⟨z,t,hkey⟩:=hk y (Array.mem_toList_iff.mp hy);simp[DictEntry.refKey,hkey]
  have a': ¬es.toList.any (·.refKey)=true:=by rw[a];exact Bool.false_ne_true
  rw[if_neg a'];exact congrArg some e
theorem ObjM.look{h:Heap}{x dx C:Addr}{mA:Str->Option Value}(I:ObjM h x dx C mA):∃od,W.InstAt h x (W.instObj C dx) C (some od)/\∀name,W.lookIn name od=some (mA name):=
 let ⟨od,ho,hl⟩:=lookIn_ns I.ns
 ⟨od,⟨I.obj,rfl,rfl,ho⟩,hl⟩
section
variable {prog:Program}{w:World}{A:Around}{E:Value->Shared->Prop}{s:Shared}{K:W.Frag}{x dx C f:Addr}{mA:Str->Option Value}{name:Str}{v:Value}
theorem get_map{expr:Bool}{Q:Value->Shared->Prop}(X:K.In s.heap)(I:ObjM s.heap x dx C mA)(hg:W.plainGet K C name=true)(hh:W.hasDictIn K C=true)
 (ha:W.findIn K (.ref C) name=some none)(hv:mA name=some v)(hv':W.handedIn v=true)(h:Q v {s with toks:=s.toks+1}):
  wpAny (model prog w) A (getAttr (.ref x) name expr) Q E s:=by
 obtain⟨od,J,hl⟩:=I.look;exact W.get_value X J (W.plainGet_of hg).1 (W.findObj_own hh ha rfl (by rw[hl,hv])) hv' h
theorem get_meth{pl:Sem Bool}{Q:Value×List Value->Shared->Prop}(X:K.In s.heap)(I:ObjM s.heap x dx C mA)(hg:W.plainGet K C name=true)
 (hf:W.findIn K (.ref C) name=some (some (.ref f)))(ht:W.isFn K (.ref f)=true)(hv:mA name=none)(h:Q (.ref f,[.ref x]) s):
  wpAny (model prog w) A (getMethod (.ref x) name pl) Q E s:=by
 obtain⟨od,J,hl⟩:=I.look;exact W.method_fn X J (W.plainGet_of hg).1 (W.plainGet_of hg).2 hf (beq_iff_eq.mp ht) (by show (W.lookIn name od).map (·.isSome)=some false;rw[hl,hv];rfl) h
theorem set_map{ns:List Str}{Q:Unit->Shared->Prop}(X:K.In s.heap)(I:ObjM s.heap x dx C mA)
 (hs:W.findIn K (.ref C) "__setattr__"=some (some (.builtin "object.__setattr__")))(hp:W.plainOver K C=true)(ht:W.takerIn K C name=some none)(hh:W.hasDictIn K C=true)
 (hw:PySem.Within mA ns)(hsz:ns.length<=sizeLine)
 (h:∀h',ObjM h' x dx C (λy=>if y=name then some v else mA y)->Heap.SameBut dx s.heap h'->Q () {s with heap:=h',toks:=s.toks+2}):
  wpAny (model prog w) A (setAttr (.ref x) name v) Q E s:=by
 obtain⟨od,J,hl⟩:=I.look;refine W.set_plain X J hs (W.osa_open (s:={s with toks:=s.toks+1}) (r:=none) X J hp ht λb=>?_);obtain⟨cd,hc,hd'⟩:=W.any_some hh;have hx:s.heap.get? x=some ⟨.ref C,some dx,.plain,#[]⟩:=I.obj;refine wpAny_bind (wpAny_pure (wpAny_bind (wpAny_bind (wpAny_loadPart hx (wpAny_bind (W.Looks.here (s:={s with toks:=s.toks+1}) (W.looks_clsIn X hc) ?_))))));rw[hd'];refine wpAny_pure (a:=some dx) (wpAny_bind (wpAny_pure (wpAny_bind ?_)));refine wpAny_nsSet1 (s:={s with toks:=s.toks+1}) I.ns λh' hn2 hs2=>?_;obtain⟨oD,esD,epD,hoD,hdD,hcD⟩:=hn2.count (PySem.Within.cons name v hw);refine wpAny_bind (wpAny_lookBehind hoD (by rw[hdD];exact pastItsLine_dict (Nat.le_trans hcD (by rw[List.length_cons];omega))) ?_);exact wpAny_pure (h _ ⟨(hs2.2 _ (Ne.symm I.ne)).trans I.obj,hn2,I.ne⟩ hs2)
theorem make_map{R:Result->Shared->Prop}{vs:List Value}{kw:List (Str×Value)}(X:K.In s.heap)(hm:W.makesIn K C=true)
 (hi:W.findIn K (.ref C) "__init__"=some (some (.ref f)))(hf:W.typeIn K (.ref f)=some (.type "function"))
 (h:codeAny (model prog w) (A.under (.builtin "type.__call__" ⟨.ref C::vs,kw⟩)) (.call (.ref f) ⟨.ref (s.heap.objs.size+1)::vs,kw⟩) (W.InitBack (s.heap.objs.size+1) R)
   {s with heap:=(s.heap.push W.emptyDict).push (W.instObj C s.heap.objs.size)}):
  codeAny (model prog w) A (.call (.ref C) ⟨vs,kw⟩) R s:=by
 obtain⟨hh,g,d,t,os⟩:=s;exact W.make_core (W.makes_of X hm) (W.looks_findIn X hi) (λself=>W.bind_fn X self hf) (.inl rfl) h
end
noncomputable def putF(f:Str)(v:V):List (Str×V)->List (Str×V)
 |[]=>[(f,v)]
 |(g,x)::r=>if g=f then (g,v)::r else (g,x)::putF f v r
theorem SE(f g:Str)(v:V):∀fs:List (Str×V),(putF f v fs).lookup g=if g=f then some v else fs.lookup g
 |[]=>by
  show List.lookup g [(f,v)]=_;by_cases h:g=f
  ·have hb:(g==f)=true:=beq_iff_eq.mpr h;simp only[List.lookup,hb,if_pos h]
  ·have hb:(g==f)=false:=beq_eq_false_iff_ne.mpr h;simp only[List.lookup,hb,if_neg h]
 |(k,x)::r=>by
  have ih:=SE f g v r;rw[show putF f v ((k,x)::r)=(if k=f then (k,v)::r else (k,x)::putF f v r) from rfl];by_cases hk:k=f
  ·rw[if_pos hk];by_cases h:g=k
   ·have hb:(g==k)=true:=beq_iff_eq.mpr h;simp only[List.lookup,hb,if_pos (h.trans hk)]
   ·have hb:(g==k)=false:=beq_eq_false_iff_ne.mpr h;simp only[List.lookup,hb,if_neg (λe:g=f=>h (e.trans hk.symm))]
  ·rw[if_neg hk];by_cases h:g=k
   ·have hb:(g==k)=true:=beq_iff_eq.mpr h;simp only[List.lookup,hb,if_neg (λe:g=f=>hk (h.symm.trans e))]
   ·have hb:(g==k)=false:=beq_eq_false_iff_ne.mpr h;simp only[List.lookup,hb];exact ih
theorem Ss(f:Str)(v:V):∀fs:List (Str×V),f∈(putF f v fs).map (·.1)/\∀g,g∈fs.map (·.1)->g∈(putF f v fs).map (·.1)
 |[]=>⟨by simp[putF],λg h=>by simp at h⟩
 |(k,x)::r=>by
  obtain⟨i1,i2⟩:=Ss f v r;rw[show putF f v ((k,x)::r)=(if k=f then (k,v)::r else (k,x)::putF f v r) from rfl];by_cases hk:k=f
  ·rw[if_pos hk];subst hk;exact⟨by simp,λg h=>by simpa using h⟩
  ·rw[if_neg hk];refine⟨?_,λg h=>?_⟩
   ·rw[List.map_cons];exact List.mem_cons_of_mem _ i1
   ·rw[List.map_cons] at h ⊢;rcases List.mem_cons.mp h with e|e
    ·exact List.mem_cons.mpr (.inl e)
    ·exact List.mem_cons_of_mem _ (i2 g e)
theorem SF(f:Str)(v:V):∀fs:List (Str×V),(putF f v fs).length<=fs.length+1
 |[]=>by simp[putF]
 |(k,x)::r=>by
  have ih:=SF f v r;rw[show putF f v ((k,x)::r)=(if k=f then (k,v)::r else (k,x)::putF f v r) from rfl];by_cases hk:k=f
  ·rw[if_pos hk,List.length_cons,List.length_cons];omega
  ·rw[if_neg hk,List.length_cons,List.length_cons];omega
theorem RelO.some_of{v:V}{o:Option Value}(r:RelO (some v) o):∃u,o=some u/\RelV v u:=by
 cases o with
 |none=>exact(show False from r).elim
 |some u=>exact⟨u,rfl,r⟩
theorem RelO.none_of{o:Option Value}(r:RelO none o):o=none:=by
 cases o with
 |none=>rfl
 |some u=>exact(show False from r).elim
theorem handed_of{v:V}{u:Value}(r:RelV v u):W.handedIn u=true:=by
 cases v with
 |non=>cases (show u=Value.none from r);rfl
 |bl b=>cases (show u=Value.bool b from r);rfl
 |int i=>obtain⟨t,e⟩:=(show ∃t,u=Value.int i t from r);cases e;rfl
 |str x=>obtain⟨t,e⟩:=(show ∃t,u=Value.str x t from r);cases e;rfl
 |byt b=>obtain⟨t,e⟩:=(show ∃t,u=Value.bytes b t from r);cases e;rfl
 |flt b=>obtain⟨t,e⟩:=(show ∃t,u=Value.float b t from r);cases e;rfl
 |ref a=>cases (show u=Value.ref a from r);rfl
 |ty n=>cases (show u=Value.type n from r);rfl
section
variable {P:Program}{w:World}{H H':Hp}{h h':Heap}{a C dx:Addr}{fs fs':List (Str×V)}
theorem Ra(hok:HOk P w H h)(e:H a=some (.ins C dx fs)):∃mA,ObjM h a dx C mA/\(∀f,RelO (fs.lookup f) (mA f))/\PySem.Within mA (fs.map (·.1))/\fs.length<=1000/\H dx=some (.own a):=by
 obtain⟨d,z,ne,ob,mA,n,r,q⟩:=(show ObjOk P w H h a (.ins C dx fs) from hok a _ e);exact⟨mA,⟨ob,n,ne⟩,r,q,z,d⟩
end
structure Cls(K:W.Frag)(C:Addr):Prop where
 pg:W.plainGet K C Str.empty=true
 hd:W.hasDictIn K C=true
 po:W.plainOver K C=true
 sa:W.findIn K (.ref C) "__setattr__"=some (some (.builtin "object.__setattr__"))
theorem Cls.get{K:W.Frag}{C:Addr}(c:Cls K C)(f:Str):W.plainGet K C f=true:=c.pg
def NoAttr(K:W.Frag)(C:Addr)(f:Str):Prop:=W.findIn K (.ref C) f=some none
theorem NoAttr.taker{K:W.Frag}{C:Addr}{f:Str}(n:NoAttr K C f):W.takerIn K C f=some none:=by
 unfold W.takerIn;rw[show W.findIn K (.ref C) f=some none from n];rfl
structure Meth(K:W.Frag)(C:Addr)(m:Str)(f:Addr):Prop where
 at_:W.findIn K (.ref C) m=some (some (.ref f))
 fn:W.isFn K (.ref f)=true
 kp:W.keepIn K (.ref f)=true
section
variable {X:Cx}{pins:List (Addr×Obj)}{σ:St}{H:Hp}{s:Shared}{a C dx:Addr}{fs:List (Str×V)}{f:Str}{v:V}{A:Around}{E:Value->Shared->Prop}
theorem getattr_ok{b:Bool}{Q:Value->Shared->Prop}(I:Inv X pins σ H s)(e:H a=some (.ins C dx fs))(c:Cls X.K C)(n:NoAttr X.K C f)(l:fs.lookup f=some v)
 (h:∀u s',Inv X pins σ H s'->RelV v u->Q u s'):wpAny (model X.prog X.w) A (getAttr (.ref a) f b) Q E s:=by
 obtain⟨mA,O,r,_,_,_⟩:=Ra I.hok e;obtain⟨u,hu,ru⟩:=RelO.some_of (v:=v) (o:=mA f) (by rw[←l];exact r f);exact get_map I.kIn O (c.get f) c.hd n hu (handed_of ru) (h u _ (I.tok _) ru)
theorem RN{m:Str}{g:Addr}{pl:Sem Bool}{Q:Value×List Value->Shared->Prop}(I:Inv X pins σ H s)(e:H a=some (.ins C dx fs))(c:Cls X.K C)(k:Meth X.K C m g)(l:fs.lookup m=none)
 (h:Q (.ref g,[.ref a]) s):wpAny (model X.prog X.w) A (getMethod (.ref a) m pl) Q E s:=by
 obtain⟨mA,O,r,_,_,_⟩:=Ra I.hok e;have hn:mA m=none:=RelO.none_of (by rw[←l];exact r m);exact get_meth I.kIn O (c.get m) k.at_ k.fn hn h
theorem setattr_ok{y:V}{u:Value}{Q:Unit->Shared->Prop}(I:Inv X pins σ H s)(e:H a=some (.ins C dx fs))(c:Cls X.K C)(n:NoAttr X.K C f)(hl:fs.length<1000)(ry:RelV y u)
 (h:∀s',Inv X pins σ (upd H a (.ins C dx (putF f y fs))) s'->Q () s'):wpAny (model X.prog X.w) A (setAttr (.ref a) f u) Q E s:=by
 obtain⟨mA,O,r,wi,_,ho⟩:=Ra I.hok e;have hz:(fs.map (·.1)).length<=sizeLine:=by rw[List.length_map,sizeLine_eq];omega
 refine set_map I.kIn O c.sa c.po n.taker c.hd wi hz λh' O' sb=>h _ ?_;have hd:∃o,h'.get? dx=some o:=let ⟨o,_,_,e',_⟩:=O'.ns;⟨o,e'⟩
 refine I.write (x:=a) (e:=dx) (by rw[e];exact True.intro) (.inr ho) (λb q hb z=>(sb.2 b hb).trans z) hd ?_;refine⟨by rw[Zc O.ne];exact ho,?_,O.ne,O'.obj,_,O'.ns,λg=>?_,λg hg=>?_⟩
 ·have:=SF f y fs;omega
 ·show RelO ((putF f y fs).lookup g) (if g=f then some u else mA g);rw[SE];by_cases q:g=f
  ·rw[if_pos q,if_pos q];exact ry
  ·rw[if_neg q,if_neg q];exact r g
 ·by_cases q:g=f
  ·rw[q];exact(Ss f y fs).1
  ·refine(Ss f y fs).2 g (wi g λz=>hg ?_);show (if g=f then some u else mA g)=none;rw[if_neg q];exact z
theorem Inv.made(I:Inv X pins σ H s):Inv X pins σ (upd (upd H s.heap.objs.size (.own (s.heap.objs.size+1))) (s.heap.objs.size+1) (.ins C s.heap.objs.size []))
  {s with heap:=(s.heap.push W.emptyDict).push (W.instObj C s.heap.objs.size)}:=by
 have e1:(s.heap.push W.emptyDict).get? s.heap.objs.size=some W.emptyDict:=Heap.get?_push_size s.heap rfl;have e2:((s.heap.push W.emptyDict).push (W.instObj C s.heap.objs.size)).get? (s.heap.objs.size+1)=some (W.instObj C s.heap.objs.size):=by
  have:=Heap.get?_push_size (s.heap.push W.emptyDict) (o:=W.instObj C s.heap.objs.size) rfl;rwa[Heap.size_push] at this
 have e3:(s.heap.push W.emptyDict).Ns s.heap.objs.size (λ_=>none):=⟨W.emptyDict,#[],_,e1,rfl,(λe he=>absurd he (by simp)),λ_=>rfl⟩;have I1:=I.laid (a:=s.heap.objs.size) (o:=.own (s.heap.objs.size+1)) (h':=s.heap.push W.emptyDict) (t':=s.toks) (λb u q=>Heap.get?_push_of_some _ q) (Nat.le_refl _) ⟨_,e1⟩;refine I1.laid (a:=s.heap.objs.size+1) (o:=.ins C s.heap.objs.size []) (t':=s.toks) (λb u q=>Heap.get?_push_of_some _ q) (Nat.le_of_eq (Heap.size_push _ _)) ?_;have ne:s.heap.objs.size≠s.heap.objs.size+1:=Nat.ne_of_lt (Nat.lt_succ_self _);refine⟨by rw[Zc ne,Zb],Nat.zero_le _,ne,e2,λ_=>none,(Heap.Ns1.of_empty e3).at λo q=>Heap.get?_push_of_some _ q,λ_=>True.intro,λy hy=>absurd rfl hy⟩
theorem attr_of{prog:Program}{w:World}{env:Env}{e:Expr}{f:Str}{pos:Pos}{s:Shared}{Q:Value->Shared->Prop}(hb:attributeBase e f env (eval e env)=eval e env)
 (h:wpAny (model prog w) A (eval e env) (λo s₁=>wpAny (model prog w) A (getAttr o f true) Q E s₁) E s):wpAny (model prog w) A (eval (.Attribute e f pos) env) Q E s:=
 Attribute_any_ h (by rw[arm_eval_Attribute,hb])
end
def tFld(K:W.Frag)(ta:TE)(f:Str):TE:=λσ H Q=>ta σ H λx H1=>∃a C dx fs v,x= .ref a/\H1 a=some (.ins C dx fs)/\Cls K C/\NoAttr K C f/\fs.lookup f=some v/\Q v H1
def sFld(K:W.Frag)(ta tv:TE)(f:Str):TS:=λD σ H=>tv σ H λy H1=>ta σ H1 λx H2=>∃a C dx fs,x= .ref a/\H2 a=some (.ins C dx fs)/\Cls K C/\NoAttr K C f/\fs.length<1000/\
 D.nx σ (upd H2 a (.ins C dx (putF f y fs)))
section
variable {X:Cx}{o e value:Expr}{f:Str}{pos pos' tpos:Pos}{ta tv:TE}
theorem Zx(he:PE X e ta)(hb:attributeBase e f X.env (eval e X.env)=eval e X.env):PE X (.Attribute e f pos) (tFld X.K ta f):=by
 intro pins s σ H Q I h;refine attr_of hb (thn (he pins s σ H _ I h) λu s1 ⟨x,H1,I1,rx,a,C,dx,fs,v,ex,ea,c,n,l,q⟩=>?_);subst ex;obtain rfl:u=Value.ref a:=rx;exact getattr_ok I1 ea c n l λu' s2 I2 ru=>⟨v,H1,I2,ru,q⟩
theorem Xa(ha:PE X o ta)(hv:PE X value tv)(hs:swapsWith value (some (.Attribute o f pos')) pos.line X.env=pure false):PS X (.Assign [.Attribute o f pos'] value pos) (sFld X.K ta tv f):=by
 intro pins s σ H D I h;refine plainObj_wpAny_Assign_Attribute (thn (hv pins s σ H _ I h) λu s1 ⟨y,H1,I1,ry,q⟩=>thn (ha pins s1 σ H1 _ I1 q) λov s2 ⟨x,H2,I2,rx,a,C,dx,fs,ex,ea,c,n,l,q2⟩=>?_) hs;subst ex;obtain rfl:ov=Value.ref a:=rx;exact setattr_ok I2 ea c n l ry λs3 I3=>⟨σ,_,I3,q2⟩
end
section
variable {X:Cx}{pins:List (Addr×Obj)}{σ:St}{H:Hp}{s:Shared}{A:Around}{E:Value->Shared->Prop}{Q:Value->Shared->Prop}{c:Value}{b:Bool}
inductive TyOf(K:W.Frag)(H:Hp):V->Value->Prop where
 |non:TyOf K H .non (.type "NoneType")
 |bl (x:Bool):TyOf K H (.bl x) (.type "bool")
 |int (i:Int):TyOf K H (.int i) (.type "int")
 |str (x:Str):TyOf K H (.str x) (.type "str")
 |flt (x:UInt64):TyOf K H (.flt x) (.type "float")
 |lst {a:Addr} {xs:List V} (e:H a=some (.lst xs)):TyOf K H (.ref a) (.type "list")
 |frz {a:Addr} {o:Obj} {xs:List V} (e:H a=some (.frz o (.lst xs))):TyOf K H (.ref a) (.type "list")
 |tup {a:Addr} {xs:List V} (e:H a=some (.tup xs)):TyOf K H (.ref a) (.type "tuple")
 |dK {a:Addr} {kvs:List (Key×V)} (e:H a=some (.dK kvs)):TyOf K H (.ref a) (.type "dict")
 |dT {a:Addr} {kvs:List (List Key×V)} (e:H a=some (.dT kvs)):TyOf K H (.ref a) (.type "dict")
 |ins {a C dx:Addr} {fs:List (Str×V)} (e:H a=some (.ins C dx fs)) (cl:Cls K C) (ha:W.findIn K (.ref C) "__class__"=some (some (.builtin "object.__class__")))
   (hn:W.specialIn K (.builtin "object.__class__") "__get__"=some (some (.builtin "getset_descriptor.__get__"))) (htk:W.takesIn K (.builtin "object.__class__")=some true)
   (hm:W.mroIn K C (.type "object")=some true):TyOf K H (.ref a) (.ref C)
theorem isinst_ok{x:V}{u t:Value}(I:Inv X pins σ H s)(rx:RelV x u)(ty:TyOf X.K H x t)(e:W.kitOne X.K t c=some b)(h:∀tk,Q (.bool b) {s with toks:=tk}):
  wpAny (model X.prog X.w) A (call (.builtin "isinstance") [u,c]) Q E s:=by
 cases ty with
 |non=>cases (show u=Value.none from rx);exact W.kia_one W.kitx_none I.kIn True.intro e (λz=>nomatch z) h
 |bl y=>cases (show u=Value.bool y from rx);exact W.kia_one W.kitx_bool I.kIn True.intro e (λz=>nomatch z) h
 |int i=>obtain⟨t,q⟩:=(show ∃t,u=Value.int i t from rx);cases q;exact W.kia_one W.kitx_int I.kIn True.intro e (λz=>nomatch z) h
 |str y=>obtain⟨t,q⟩:=(show ∃t,u=Value.str y t from rx);cases q;exact W.kia_one W.kitx_str I.kIn True.intro e (λz=>nomatch z) h
 |flt y=>obtain⟨t,q⟩:=(show ∃t,u=Value.float y t from rx);cases q;exact W.kia_one W.kitx_float I.kIn True.intro e (λz=>nomatch z) h
 | @lst a xs ea=>
  cases (show u=Value.ref a from rx);obtain⟨_,_,n,_,h1⟩:=(show ObjOk X.prog X.w H s.heap a (.lst xs) from I.hok a _ ea);exact W.kia_one W.kitx_list I.kIn ⟨_,h1,rfl⟩ e (λz=>nomatch z) h
 | @frz a ob xs ea=>
  cases (show u=Value.ref a from rx);obtain⟨_,_,_,n,_,h1⟩:=(show ObjOk X.prog X.w H s.heap a (.frz ob (.lst xs)) from I.hok a _ ea);exact W.kia_one W.kitx_list I.kIn ⟨_,h1,rfl⟩ e (λz=>nomatch z) h
 | @tup a xs ea=>
  cases (show u=Value.ref a from rx);obtain⟨_,_,_,p⟩:=(show ObjOk X.prog X.w H s.heap a (.tup xs) from I.hok a _ ea);obtain⟨o,h1,h2,_⟩:=p;exact W.kia_one W.kitx_tuple I.kIn ⟨o,h1,h2⟩ e (λz=>nomatch z) h
 | @dK a kvs ea=>
  cases (show u=Value.ref a from rx);obtain⟨_,_,vs,_,p⟩:=(show ObjOk X.prog X.w H s.heap a (.dK kvs) from I.hok a _ ea);obtain⟨o,es,ep,h1,h2,_⟩:=p;exact W.kia_one W.kitx_dict I.kIn ⟨o,h1,h2.1⟩ e (λz=>nomatch z) h
 | @dT a kvs ea=>
  cases (show u=Value.ref a from rx);obtain⟨_,_,xs,_,o,es,ep,h1,h2,_⟩:=(show ObjOk X.prog X.w H s.heap a (.dT kvs) from I.hok a _ ea);exact W.kia_one W.kitx_dict I.kIn ⟨o,h1,h2.1⟩ e (λz=>nomatch z) h
 | @ins a C dx fs ea cl ha hn htk hm=>
  cases (show u=Value.ref a from rx);obtain⟨mA,O,_⟩:=Ra I.hok ea;obtain⟨od,J,_⟩:=O.look;exact W.kia_one (W.kitx_own (cl.get _) cl.hd ha hn htk hm) I.kIn J e (λz=>nomatch z) h
end
end L2
namespace L2
open PySem PySem.Spec PyProof.Rows
structure Room(k:Nat)(A:Around):Prop where
 hd:A.handled=none
 dp:A.depth+3 * k+5<recursionLimit
 un:A.units+16 * k+200<cLine
theorem Room.mono{j k:Nat}{A:Around}(r:Room k A)(h:j<=k):Room j A:=⟨r.hd,by have:=r.dp;omega,by have:=r.un;omega⟩
theorem Room.deeper{k:Nat}{A:Around}(r:Room (k+1) A)(env:Env):Room k (A.deeper env):=
 ⟨r.hd,by have:=r.dp;show A.depth+1+3 * k+5<_;omega,by have:=r.un;show A.units+3+16 * k+200<_;omega⟩
theorem make_depth{A:Around}{C:Addr}{us:List Value}{kw:List (Str×Value)}:(A.under (.builtin "type.__call__" ⟨.ref C::us,kw⟩)).depth=A.depth+1:=by
 first|rfl|simp[Around.under,Code.weight,Code.isCreation,Code.isGuard,Code.isCaller,Code.frames,Code.isFrame,guardIds]
theorem make_units{A:Around}{C:Addr}{us:List Value}{kw:List (Str×Value)}:(A.under (.builtin "type.__call__" ⟨.ref C::us,kw⟩)).units=A.units+1:=by
 first|rfl|simp[Around.under,Code.cUnits,Code.frames,Code.isFrame]
theorem Room.make{k:Nat}{A:Around}(r:Room (k+1) A)(C:Addr)(us:List Value)(kw:List (Str×Value)):Room k (A.under (.builtin "type.__call__" ⟨.ref C::us,kw⟩)):=
 ⟨r.hd,by have:=r.dp;rw[make_depth];omega,by have:=r.un;rw[make_units];omega⟩
theorem Room.depth{k:Nat}{A:Around}(r:Room k A):A.depth<recursionLimit:=by have:=r.dp;omega
theorem Room.units{k:Nat}{A:Around}(r:Room k A):A.units+64<cLine:=by have:=r.un;omega
def tNil:TA:=λ_ H Q=>Q [] H
def tCons(ta:TE)(tr:TA):TA:=λσ H Q=>ta σ H λx H1=>tr σ H1 λxs H2=>Q (x::xs) H2
section
variable {X:Cx}{e:Expr}{es:List Expr}{te:TE}{t:TA}{pos:Pos}
theorem Ze:PA X [] tNil:=λ_ _ _ _ H Q I h=>Calls.spliced_nil ⟨[],H,I,.nil,h⟩
theorem Za(ha:PE X e te)(hr:PA X es t)(hs:starEach (e::es) X.env=(false,eval e X.env)::starEach es X.env:=by rfl):PA X (e::es) (tCons te t):=by
 intro pos pins s σ H Q I h;rw[hs];show wpAny _ _ (spliced ((false,eval e X.env)::backTo pos (starEach es X.env))) _ _ s;refine Calls.spliced_cons (thn (ha pins s σ H _ I h) λu s1 ⟨x,H1,I1,r1,q1⟩=>?_);exact thn (hr pos pins s1 σ H1 _ I1 q1) λus s2 ⟨xs,H2,I2,r2,q2⟩=>⟨x::xs,H2,I2,.cons r1 r2,q2⟩
def tTup(t:TA):TE:=λσ H Q=>t σ H λxs H1=>xs.length<=sizeLine/\∀p,H1 p=none->Q (.ref p) (upd H1 p (.tup xs))
def tLst(t:TA):TE:=λσ H Q=>t σ H λxs H1=>xs.length<=sizeLine/\∀p,H1 p=none->Q (.ref p) (upd H1 p (.lst xs))
theorem Yv{x1}(h:PA X es t):PE X (.Tuple es x1 pos) (tTup t):=by
 intro pins s σ H Q I hq;refine wpAny_Tuple_spliced (thn (h pos pins s σ H _ I hq) λus s1 ⟨xs,H1,I1,r,z,q⟩=>⟨by rw[←r.length];exact z,?_⟩);have hf:H1 s1.heap.objs.size=none:=I1.hok.fresh (Nat.le_refl _);refine⟨.ref s1.heap.objs.size,upd H1 s1.heap.objs.size (.tup xs),I1.laid (t':=s1.toks) (λb u e=>Heap.get?_push_of_some _ e) (Nat.le_refl _) ?_,rfl,q _ hf⟩;exact⟨z,us,r,⟨_,Heap.get?_push_size _ rfl,rfl,_,rfl⟩⟩
theorem YN(h:PA X es t):PE X (.List es pos) (tLst t):=by
 intro pins s σ H Q I hq;refine wpAny_List_spliced (thn (h pos pins s σ H _ I hq) λus s1 ⟨xs,H1,I1,r,z,q⟩=>⟨by rw[←r.length];exact z,?_⟩);have hf:H1 s1.heap.objs.size=none:=I1.hok.fresh (Nat.le_refl _);refine⟨.ref s1.heap.objs.size,upd H1 s1.heap.objs.size (.lst xs),I1.laid (t':=s1.toks) (λb u e=>Heap.get?_push_of_some _ e) (Nat.le_refl _) ?_,rfl,q _ hf⟩;exact⟨z,us,0,r,Heap.get?_push_size _ rfl⟩
end
abbrev Sp:=List V->Hp->VK->XK->Prop
abbrev CXT:=List Env->Hp->Shared->XK->Value->Shared->Prop
structure Env0(P:Program)(w:World)(K:W.Frag)(mg:Str->Option Value)(base:Heap)(A:Around)(outer:List Env)(s:Shared)(H:Hp):Prop where
 frames:A.frames=some outer
 mod:Mod K mg base
 bs:∀b o,base.get? b=some o->s.heap.get? b=some o/\H b=none
 bsz:base.objs.size<=s.heap.objs.size
 funs:s.heap.FunFrames base outer
 frf:∀b∈frs outer,H b=none
 hok:HOk P w H s.heap
 bare:AllBare s.gens
def CE(outer:List Env)(P:Program)(w:World)(H:Hp)(s:Shared)(Q:VK)(u:Value)(s':Shared):Prop:=
 ∃v H',s'.os=s.os/\AllBare s'.gens/\Un (frs outer) [] H H' s.heap s'.heap/\HOk P w H' s'.heap/\RelV v u/\Q v H'
def CR(CX:CXT)(outer:List Env)(P:Program)(w:World)(H:Hp)(s:Shared)(Q:VK)(E:XK)(r:Result)(s':Shared):Prop:=
 match r with
 | .ok (.ret u)=>CE outer P w H s Q u s'
 | .ok _=>False
 | .error e=>CX outer H s E e s'
structure FnOk(P:Program)(w:World)(K:W.Frag)(mg:Str->Option Value)(base:Heap)(CX:CXT)(k:Nat)(f:Addr)(fd:FuncData)(ps:List Str)(sp:Sp):Prop where
 len:∀vs H Q E,sp vs H Q E->vs.length=ps.length
 run:∀(A:Around) (outer:List Env) (s:Shared) (H:Hp) (args:Args) (us:List Value) (vs:List V) (Q:VK) (E:XK),Room k A->Env0 P w K mg base A outer s H->BindsTo s fd args (ps.zip us)->Vals vs us->sp vs H Q E->
  codeAny (model P w) A (.call (.ref f) args) (CR CX outer P w H s Q E) s
theorem FnOk.mono{P:Program}{w:World}{K:W.Frag}{mg:Str->Option Value}{base:Heap}{CX:CXT}{j k:Nat}{f:Addr}{fd:FuncData}{ps:List Str}{sp:Sp}(F:FnOk P w K mg base CX j f fd ps sp)(h:j<=k):
  FnOk P w K mg base CX k f fd ps sp:=⟨F.len,λA outer s H args us vs Q E hr=>F.run A outer s H args us vs Q E (hr.mono h)⟩
theorem FnOk.imp{P:Program}{w:World}{K:W.Frag}{mg:Str->Option Value}{base:Heap}{CX:CXT}{k:Nat}{f:Addr}{fd:FuncData}{ps:List Str}{sp sp':Sp}(F:FnOk P w K mg base CX k f fd ps sp)
 (h:∀vs H Q E,sp' vs H Q E->sp vs H Q E):FnOk P w K mg base CX k f fd ps sp':=
 ⟨λvs H Q E q=>F.len vs H Q E (h _ _ _ _ q),λA outer s H args us vs Q E hr he hb hv hs=>F.run A outer s H args us vs Q E hr he hb hv (h _ _ _ _ hs)⟩
theorem Env0.make{P:Program}{w:World}{K:W.Frag}{mg:Str->Option Value}{base:Heap}{A:Around}{outer:List Env}{s:Shared}{H:Hp}(e:Env0 P w K mg base A outer s H)(C:Addr)(us:List Value)(kw:List (Str×Value)):
  Env0 P w K mg base (A.under (.builtin "type.__call__" ⟨.ref C::us,kw⟩)) outer s H:=⟨by first|exact e.frames|(simpa[Around.under,Code.envs,Code.isFrame,pushEnvs] using e.frames),e.mod,e.bs,e.bsz,e.funs,e.frf,e.hok,e.bare⟩
section
variable {X:Cx}{pins:List (Addr×Obj)}{σ:St}{H:Hp}{s s':Shared}
theorem Inv.env0(I:Inv X pins σ H s):Env0 X.prog X.w X.K X.mg X.base X.A X.stack s H:=
 ⟨I.ok.frames,I.ok.mod,I.bs,Nat.le_trans I.ok.bsz I.sz,I.stack,I.stkFree,I.hok,I.bare⟩
theorem Inv.after{Q:VK}{u:Value}(I:Inv X pins σ H s)(h:CE X.stack X.prog X.w H s Q u s'):EP X pins σ Q u s':=by
 obtain⟨v,H',os,bare,un,hok,r,q⟩:=h;obtain⟨hh,g,d,t,os'⟩:=s';obtain rfl:os'=s.os:=os;exact⟨v,H',I.call (h':=hh) (g':=g) (d':=d) (t':=t) (ch:=[]) un hok bare (λb z=>absurd z (by simp)),r,q⟩
end
def tCall(sp:Sp)(dvs:List V)(E:XK)(t:TA):TE:=λσ H Q=>t σ H λvs H1=>sp (vs++dvs) H1 Q E
def tMeth(C:Addr)(m:Str)(sp:Sp)(dvs:List V)(E:XK)(ta:TE)(t:TA):TE:=λσ H Q=>ta σ H λx H1=>∃a dx fs,x= .ref a/\H1 a=some (.ins C dx fs)/\fs.lookup m=none/\
 t σ H1 λvs H2=>sp (x::(vs++dvs)) H2 Q E
def tMake(C:Addr)(sp:Sp)(dvs:List V)(E:XK)(t:TA):TE:=λσ H Q=>t σ H λvs H1=>∀x dx,H1 x=none->H1 dx=none->dx≠x->
 sp (.ref x::(vs++dvs)) (upd (upd H1 dx (.own x)) x (.ins C dx [])) (λv H2=>v= .non/\Q (.ref x) H2) E
def Binds(K:W.Frag)(fd:FuncData)(ps:List Str)(ds:List Value):Prop:=
 ∀(s:Shared) (us:List Value),K.In s.heap->(us++ds).length=ps.length->BindsTo s fd ⟨us,[]⟩ (ps.zip (us++ds))
theorem Binds.all{K:W.Frag}{fd:FuncData}{ps:List Str}(h:∀us:List Value,us.length=ps.length->bindArgs fd ⟨us,[]⟩=pure (ps.zip us)):Binds K fd ps []:=λs us _ hl=>by
 rw[List.append_nil] at hl ⊢;exact .of_eq (h us hl)
def UJ(CX:CXT)(X:Cx)(E:XK):Prop:=∀(pins:List (Addr×Obj)) (σ:St) (H:Hp) (s:Shared) (e:Value) (s':Shared),Inv X pins σ H s->CX X.stack H s E e s'->X.xe e s'
section
variable {X:Cx}{CX:CXT}{k:Nat}{f C:Addr}{fd:FuncData}{ps:List Str}{sp:Sp}{dvs:List V}{ds:List Value}{E:XK}{x m:Str}{p pos apos:Pos}{e o:Expr}{es:List Expr}{ta:TE}{t:TA}
theorem run_fn{pins:List (Addr×Obj)}{σ:St}{H:Hp}{s:Shared}{Q:VK}{us:List Value}{vs:List V}(F:FnOk X.prog X.w X.K X.mg X.base CX k f fd ps sp)(hr:Room k X.A)(hb:Binds X.K fd ps ds)(hd:Vals dvs ds)(hx:UJ CX X E)
 (I:Inv X pins σ H s)(r:Vals vs us)(h:sp (vs++dvs) H Q E):wpAny (model X.prog X.w) X.A (call (.ref f) us) (EP X pins σ Q) X.xe s:=by
 have r2:Vals (vs++dvs) (us++ds):=r.append hd;have hl:(us++ds).length=ps.length:=by rw[←r2.length];exact F.len _ _ _ _ h
 refine wpAny_call (codeAny_mono (F.run X.A X.stack s H ⟨us,[]⟩ (us++ds) (vs++dvs) Q E hr I.env0 (hb s us I.kIn hl) r2 h) λr s' hq=>?_);cases r with
 |error e=>exact hx pins σ H s e s' I hq
 |ok fl=>
  cases fl with
  |ret u=>exact I.after hq
  |next=>exact False.elim hq
  |brk=>exact False.elim hq
  |cont=>exact False.elim hq
theorem ZA(F:FnOk X.prog X.w X.K X.mg X.base CX k f fd ps sp)(hr:Room k X.A)(hg:Gl X x)(hm:X.mg x=some (.ref f))(hk:W.keepIn X.K (.ref f)=true)(hb:Binds X.K fd ps ds)(hd:Vals dvs ds)(hx:UJ CX X E)
 (ha:PA X (e::es) t)(hdb:(x==("__debug__":Str))=false:=by decide)(he:starEach (e::es) X.env=(false,eval e X.env)::starEach es X.env:=by rfl)(hpl:(backTo pos (starEach es X.env)).any (·.1)=false:=by rfl):
  PE X (.Call (.Name x p) (e::es) [] pos) (tCall sp dvs E t):=by
 intro pins s σ H Q I h;refine wpAny_Call_Name_kw (US I hg hm ?_ hdb);refine W.callWith_K (h₀:=X.base) I.ok.mod.kin hk (thn (ha pos pins s σ H _ I h) λus s1 ⟨vs,H1,I1,r,q⟩=>⟨I1.kIn,?_⟩) he hpl;exact run_fn F hr hb hd hx I1 r q
theorem Yx{pl:Sem Bool}(he:PE X o ta)(c:Cls X.K C)(hm:Meth X.K C m f)(F:FnOk X.prog X.w X.K X.mg X.base CX k f fd ps sp)(hr:Room k X.A)(hb:Binds X.K fd ps ds)(hd:Vals dvs ds)(hx:UJ CX X E)(ha:PA X (e::es) t)
 (hst:starEach (e::es) X.env=(false,eval e X.env)::starEach es X.env:=by rfl)(hpl:(backTo pos (starEach es X.env)).any (·.1)=false:=by rfl)
 (ht:eval (.Call (.Attribute o m apos) (e::es) [] pos) X.env=(do
   let ov←eval o X.env
   standAt apos.atName
   let (f,first)←holding [ov] (getMethod ov m pl)
   callWith pos f first (backTo pos (starEach (e::es) X.env)) (backToKw pos (keywordEach [] X.env))):=by rfl):
  PE X (.Call (.Attribute o m apos) (e::es) [] pos) (tMeth C m sp dvs E ta t):=by
 intro pins s σ H Q I h;refine W.methodCall_KW (pl:=pl) (thn (he pins s σ H _ I h) λu s1 ⟨x,H1,I1,rx,a,dx,fs,ex,ea,l,q⟩=>?_) ht;subst ex;obtain rfl:u=Value.ref a:=rx;refine RN I1 ea c hm l ?_;refine W.callWith_K (first:=[.ref a]) (h₀:=X.base) I.ok.mod.kin hm.kp (thn (ha pos pins s1 σ H1 _ I1 q) λus s2 ⟨vs,H2,I2,r,q2⟩=>⟨I2.kIn,?_⟩) hst hpl;exact run_fn (us:=.ref a::us) (vs:=.ref a::vs) F hr hb hd hx I2 (.cons rfl r) q2
theorem Yu{pl:Sem Bool}(he:PE X o ta)(c:Cls X.K C)(hm:Meth X.K C m f)(F:FnOk X.prog X.w X.K X.mg X.base CX k f fd ps sp)(hr:Room k X.A)(hb:Binds X.K fd ps ds)(hd:Vals dvs ds)(hx:UJ CX X E)
 (ht:eval (.Call (.Attribute o m apos) [] [] pos) X.env=(do
   let ov←eval o X.env
   standAt apos.atName
   let (f,first)←holding [ov] (getMethod ov m pl)
   callWith pos f first (backTo pos (starEach [] X.env)) (backToKw pos (keywordEach [] X.env))):=by rfl):
  PE X (.Call (.Attribute o m apos) [] [] pos) (tMeth C m sp dvs E ta tNil):=by
 intro pins s σ H Q I h;refine W.methodCall_KW (pl:=pl) (thn (he pins s σ H _ I h) λu s1 ⟨x,H1,I1,rx,a,dx,fs,ex,ea,l,q⟩=>?_) ht;subst ex;obtain rfl:u=Value.ref a:=rx;refine RN I1 ea c hm l ?_;exact W.callWith_K0 (first:=[.ref a]) I1.kIn hm.kp (run_fn (us:=[.ref a]) (vs:=[.ref a]) F hr hb hd hx I1 (.cons rfl .nil) q)
structure Mk(K:W.Frag)(C f:Addr):Prop where
 makes:W.makesIn K C=true
 init:W.findIn K (.ref C) "__init__"=some (some (.ref f))
 fn:W.isFn K (.ref f)=true
 kp:W.keepIn K (.ref C)=true
theorem run_make{pins:List (Addr×Obj)}{σ:St}{H:Hp}{s:Shared}{Q:VK}{us:List Value}{vs:List V}(M:Mk X.K C f)(F:FnOk X.prog X.w X.K X.mg X.base CX k f fd ps sp)(hr:Room (k+1) X.A)(hb:Binds X.K fd ps ds)(hd:Vals dvs ds)
 (hx:UJ CX X E)(I:Inv X pins σ H s)(r:Vals vs us)
 (h:∀x dx,H x=none->H dx=none->dx≠x->sp (.ref x::(vs++dvs)) (upd (upd H dx (.own x)) x (.ins C dx [])) (λv H2=>v= .non/\Q (.ref x) H2) E):
  wpAny (model X.prog X.w) X.A (call (.ref C) us) (EP X pins σ Q) X.xe s:=by
 have hq:=h (s.heap.objs.size+1) s.heap.objs.size (I.hok.fresh (Nat.le_succ _)) (I.hok.fresh (Nat.le_refl _)) (Nat.ne_of_lt (Nat.lt_succ_self _));have I2:=Inv.made (C:=C) I;have r2:Vals (V.ref (s.heap.objs.size+1)::(vs++dvs)) (Value.ref (s.heap.objs.size+1)::(us++ds)):=.cons rfl (r.append hd);have hl:(Value.ref (s.heap.objs.size+1)::us++ds).length=ps.length:=by
  have e:=r2.length;rw[F.len _ _ _ _ hq] at e;exact e.symm
 refine wpAny_call (make_map (f:=f) I.kIn M.makes M.init (beq_iff_eq.mp M.fn) (codeAny_mono (F.run _ X.stack _ _ ⟨Value.ref (s.heap.objs.size+1)::us,[]⟩ (Value.ref (s.heap.objs.size+1)::(us++ds)) _ _ E (hr.make C us [])
  (I2.env0.make C us []) (hb _ (Value.ref (s.heap.objs.size+1)::us) I2.kIn hl) r2 hq) λr s' hq'=>?_))
 cases r with
 |error e=>exact hx pins σ _ _ e s' I2 hq'
 |ok fl=>
  cases fl with
  |ret u=>
   obtain⟨v,H',I3,rv,ev,q3⟩:=I2.after hq';subst ev;exact⟨rv,⟨V.ref (s.heap.objs.size+1),H',I3,rfl,q3⟩⟩
  |next=>exact False.elim hq'
  |brk=>exact False.elim hq'
  |cont=>exact False.elim hq'
theorem SY(M:Mk X.K C f)(F:FnOk X.prog X.w X.K X.mg X.base CX k f fd ps sp)(hr:Room (k+1) X.A)(hg:Gl X x)(hm:X.mg x=some (.ref C))(hb:Binds X.K fd ps ds)(hd:Vals dvs ds)(hx:UJ CX X E)
 (ha:PA X (e::es) t)(hdb:(x==("__debug__":Str))=false:=by decide)(he:starEach (e::es) X.env=(false,eval e X.env)::starEach es X.env:=by rfl)(hpl:(backTo pos (starEach es X.env)).any (·.1)=false:=by rfl):
  PE X (.Call (.Name x p) (e::es) [] pos) (tMake C sp dvs E t):=by
 intro pins s σ H Q I h;refine wpAny_Call_Name_kw (US I hg hm ?_ hdb);refine W.callWith_K (h₀:=X.base) I.ok.mod.kin M.kp (thn (ha pos pins s σ H _ I h) λus s1 ⟨vs,H1,I1,r,q⟩=>⟨I1.kIn,?_⟩) he hpl;exact run_make M F hr hb hd hx I1 r q
end
def PK(X:Cx)(kws:List Keyword)(t:TA):Prop:=
 ∀(pos:Pos) (pins:List (Addr×Obj)) (s:Shared) (σ:St) (H:Hp) (Q:List V->Hp->Prop),Inv X pins σ H s->t σ H Q->wpAny (model X.prog X.w) X.A (evalAll ((backToKw pos (keywordEach kws X.env)).map (·.2))) (AP X pins σ Q) X.xe s
section
variable {X:Cx}{CX:CXT}{k:Nat}{f C:Addr}{fd:FuncData}{ps ks:List Str}{sp:Sp}{E:XK}{x m:Str}{p pos apos kpos:Pos}{e o:Expr}{es:List Expr}{kws:List Keyword}{te ta:TE}{t tk:TA}{nm:Option Str}
theorem pk_nil:PK X [] tNil:=λ_ _ _ _ H Q I h=>wpAny_evalAll_nil ⟨[],H,I,.nil,h⟩
theorem pk_cons(ha:PE X e te)(hr:PK X kws t):PK X (⟨nm,e,kpos⟩::kws) (tCons te t):=by
 intro pos pins s σ H Q I h;show wpAny _ _ (evalAll ((do let v←eval e X.env;standAt pos;pure v)::(backToKw pos (keywordEach kws X.env)).map (·.2))) _ _ s;refine wpAny_evalAll_cons (wpAny_bind (thn (ha pins s σ H _ I h) λu s1 ⟨x,H1,I1,r1,q1⟩=>wpAny_bind (wpAny_standAt (wpAny_pure ?_))));exact thn (hr pos pins s1 σ H1 _ I1 q1) λus s2 ⟨xs,H2,I2,r2,q2⟩=>⟨x::xs,H2,I2,.cons r1 r2,q2⟩
variable {g:List Value->List Value->List Value}{gV:List V->List V->List V}
end
structure FnScope(N P:List Str)(sc:Scope):Prop where
 kind:sc.kind= .function
 co:sc.isCoroutine=false
 gen:sc.isGenerator=false
 nd:N.Nodup
 pre:N.take P.length=P
 par:∀x∈P,sc.names.lookup x=some .local\/sc.names.lookup x=some .cell
 nofree:∀y∈sc.names,y.2≠.free
theorem Zu{N P:List Str}{sc:Scope}(a:sc.kind= .function:=by rfl)(b:sc.isCoroutine=false:=by rfl)(c:sc.isGenerator=false:=by rfl)(d:N.Nodup:=by decide+kernel)(e:N.take P.length=P:=by rfl)(f:∀x∈P,sc.names.lookup x=some .local\/sc.names.lookup x=some .cell:=by decide+kernel)(g:∀y∈sc.names,y.2≠.free:=by decide+kernel):FnScope N P sc:=⟨a,b,c,d,e,f,g⟩
theorem QK{kindOf:Str->Option NameKind}{x:Str}:∀{binds:List (Str×Value)} {m:Str->Option Value},(∀v,(x,v)∉binds)->bindL kindOf binds m x=m x
 |[],_,_=>rfl
 |(n,v)::r,m,h=>by
  unfold bindL;rw[QK λw hw=>h w (List.mem_cons_of_mem _ hw)];split
  ·have:x≠n:=by rintro rfl;exact h v List.mem_cons_self
   simp[this]
  ·rfl
theorem QM{kindOf:Str->Option NameKind}{x:Str}:∀{binds:List (Str×Value)} {m:Str->Option Value},(∀v,(x,v)∉binds)->bindC kindOf binds m x=m x
 |[],_,_=>rfl
 |(n,v)::r,m,h=>by
  unfold bindC;rw[QM λw hw=>h w (List.mem_cons_of_mem _ hw)];split
  ·rfl
  ·have:x≠n:=by rintro rfl;exact h v List.mem_cons_self
   simp[this]
theorem QL{kindOf:Str->Option NameKind}{x:Str}{v:Value}:∀{P:List Str} {vs:List Value} {i:Nat} {m:Str->Option Value},P.Nodup->P[i]?=some x->vs[i]?=some v->kindOf x=some .local->
  bindL kindOf (P.zip vs) m x=some v
 |[],_,_,_,_,h,_,_=>by simp at h
 |_::_,[],_,_,_,_,h,_=>by simp at h
 |p::P,w::vs,0,m,nd,h1,h2,hk=>by
  simp at h1 h2;subst h1;subst h2;show bindL kindOf ((p,w)::P.zip vs) m p=_;unfold bindL;rw[QK λv hv=>(List.nodup_cons.mp nd).1 (List.of_mem_zip hv).1,if_pos hk];simp
 |p::P,w::vs,i+1,m,nd,h1,h2,hk=>by
  show bindL kindOf ((p,w)::P.zip vs) m x=_;unfold bindL;exact QL (i:=i) (List.nodup_cons.mp nd).2 (by simpa using h1) (by simpa using h2) hk
theorem QN{kindOf:Str->Option NameKind}{x:Str}{v:Value}:∀{P:List Str} {vs:List Value} {i:Nat} {m:Str->Option Value},P.Nodup->P[i]?=some x->vs[i]?=some v->kindOf x≠some .local->
  bindC kindOf (P.zip vs) m x=some v
 |[],_,_,_,_,h,_,_=>by simp at h
 |_::_,[],_,_,_,_,h,_=>by simp at h
 |p::P,w::vs,0,m,nd,h1,h2,hk=>by
  simp at h1 h2;subst h1;subst h2;show bindC kindOf ((p,w)::P.zip vs) m p=_;unfold bindC;rw[QM λv hv=>(List.nodup_cons.mp nd).1 (List.of_mem_zip hv).1,if_neg hk];simp
 |p::P,w::vs,i+1,m,nd,h1,h2,hk=>by
  show bindC kindOf ((p,w)::P.zip vs) m x=_;unfold bindC;exact QN (i:=i) (List.nodup_cons.mp nd).2 (by simpa using h1) (by simpa using h2) hk
noncomputable def start(N:List Str)(vs:List V):St:=vs.map some++List.replicate (N.length-vs.length) none
noncomputable def cxOf(CX:CXT)(P:Program)(w:World)(K:W.Frag)(mg:Str->Option Value)(base:Heap)(N:List Str)(qual:Str)(scope:Scope)(f:Addr)(cd:Value)(A:Around)(outer:List Env)(s:Shared)(H:Hp)(E:XK):Cx where
 prog:=P
 w:=w
 K:=K
 mg:=mg
 base:=base
 A:=A.deeper (envOfC qual scope s.heap.objs.size f cd)
 N:=N
 s₀:=s
 H₀:=H
 env:=envOfC qual scope s.heap.objs.size f cd
 outer:=outer
 stack:=envOfC qual scope s.heap.objs.size f cd::outer
 ex:=[]
 calm:=true
 fn:=λ_=>true
 pn:=[]
 xe:=λe s'=>wpAny (model P w) (A.deeper (envOfC qual scope s.heap.objs.size f cd)) (leaving (envOfC qual scope s.heap.objs.size f cd) e) (λ_ s''=>CX outer H s E e s'') (λe' s''=>CX outer H s E e' s'') s'
theorem TX{sc:Scope}{n:Nat}{x:Str}(h:sc.names.lookup x=some .cell):∃c,(cellsFrom n sc.names []).lookup x=some c:=by
 have q:=W.cellsFrom_some sc.names n [] (.inl h);exact Option.isSome_iff_exists.mp q
theorem inv_start{CX:CXT}{P:Program}{w:World}{K:W.Frag}{mg:Str->Option Value}{base:Heap}{N ps:List Str}{qual:Str}{scope:Scope}{f:Addr}{cd:Value}{A:Around}{outer:List Env}{s s1:Shared}{H:Hp}{E:XK}{us:List Value}{vs:List V}
 (S:FnScope N ps scope)(hd:A.handled=none)(e0:Env0 P w K mg base A outer s H)(hl:vs.length=ps.length)(r:Vals vs us)
 (x:InCallC s s.heap.objs.size (bindL (envOfC qual scope s.heap.objs.size f cd).kindOf (ps.zip us) λ_=>none) (cellsFrom (s.heap.objs.size+1) scope.names []) (bindC (envOfC qual scope s.heap.objs.size f cd).kindOf (ps.zip us) λ_=>none) s1):
  Inv (cxOf CX P w K mg base N qual scope f cd A outer s H E) [] (start N vs) H s1:=by
 have hpl:ps.length<=N.length:=by have:=congrArg List.length S.pre;rw[List.length_take] at this;omega
 obtain⟨h1,tk,rfl,hk⟩:=x.done;have noA:∀b:Addr,b∉(cxOf CX P w K mg base N qual scope f cd A outer s H E).ex:=λb z=>absurd (show b∈([]:List Addr) from z) (by simp);refine⟨⟨e0.mod,S.kind,rfl,rfl,Nat.le_refl _,λy z c h1 h2=>?_,λy hy=>?_,λy c _ h=>?_,λ_=>hd,Around.frames_deeper e0.frames,.inr ⟨rfl,rfl⟩,λb z=>absurd z (noA b),e0.bs,e0.bsz,λb _ _=>noA b,λb z=>absurd z (noA b),e0.funs,e0.frf⟩,
  rfl,e0.bare,Un.kept hk,⟨_,x.toInCall.ns,λi y v h1 h2 h3=>?_⟩,λy c h=>⟨_,x.cell y c h⟩,e0.hok.fresh (Nat.le_refl _),λy c h=>?_,λp hp=>absurd (show p∈([]:List (Addr×Obj)) from hp) (by simp),e0.hok.kept hk,?_⟩
 ·exact name_of_addr x.apart (PySem.mem_of_lookup h1) (PySem.mem_of_lookup h2)
 ·have hy:scope.names.lookup y=some .cell\/scope.names.lookup y=some .free:=hy;rcases hy with hy|hy
  ·exact TX hy
  ·exact absurd rfl (S.nofree _ (PySem.mem_of_lookup hy))
 ·exact Nat.le_of_lt (x.above y c (PySem.mem_of_lookup h))
 ·have hi:i<vs.length:=by
   unfold start at h2;by_cases hi:i<vs.length
   ·exact hi
   ·rw[List.getElem?_append_right (by simpa using hi)] at h2;rw[List.getElem?_replicate] at h2;split at h2<;>cases h2
  have ha:vs[i]?=some v:=by
   unfold start at h2;rw[List.getElem?_append_left (by simpa using hi),List.getElem?_map] at h2;cases e:vs[i]? with
   |none=>rw[e] at h2;cases h2
   |some a=>rw[e] at h2;cases h2;rfl
  obtain⟨u,hu,rv⟩:=r.get ha;have hp:ps[i]?=some y:=by
   rw[←S.pre,List.getElem?_take_of_lt (by omega)];exact h1
  have ndP:ps.Nodup:=by rw[←S.pre];exact S.nd.sublist (List.take_sublist _ _)
  refine⟨u,rv,?_⟩;rcases S.par y (List.mem_of_getElem? hp) with k|k
  ·exact .inl ⟨k,QL ndP hp hu k⟩
  ·obtain⟨c,e⟩:=TX (n:=s.heap.objs.size+1) k;refine .inr ⟨.inl k,c,e,?_⟩;have q:=x.cell y c e;rw[QN ndP hp hu (by show scope.names.lookup y≠_;rw[k];decide)] at q;exact q
 ·exact e0.hok.fresh (Nat.le_of_lt (x.above y c (PySem.mem_of_lookup h)))
 ·unfold start;show _=N.length;rw[List.length_append,List.length_map,List.length_replicate];omega
theorem fn_of{CX:CXT}{P:Program}{w:World}{K:W.Frag}{mg:Str->Option Value}{base:Heap}{k:Nat}{f:Addr}{name qual:Str}{params:Arguments}{body:List Stmt}{scope:Scope}{dV kV doc pm cdv ct oc:Value}{an od:Option Addr}
 {osl:Array (Option Value)}{N ps:List Str}{sp:Sp}(lk:K.lookup f=some ⟨oc,od,.func (W.fnOf name qual params body scope dV kV doc pm an cdv ct),osl⟩)(hcd:W.codeIn K cdv qual=true)(S:FnScope N ps scope)
 (len:∀vs H Q E,sp vs H Q E->vs.length=ps.length)
 (hbody:∀(A:Around) (outer:List Env) (s:Shared) (H:Hp) (vs:List V) (Q:VK) (E:XK),Room k (A.deeper (envOfC qual scope s.heap.objs.size f cdv))->sp vs H Q E->
   ∃t,PSs (cxOf CX P w K mg base N qual scope f cdv A outer s H E) body t/\t {nx:=λ_ H'=>Q .non H',rt:=Q} (start N vs) H):
  FnOk P w K mg base CX (k+1) f (W.fnOf name qual params body scope dV kV doc pm an cdv ct) ps sp:=by
 refine⟨len,λA outer s H args us vs Q E hr e0 hb r hsp=>?_⟩;have hl:=len _ _ _ _ hsp;have KX:K.In s.heap:=e0.mod.kin.keeps λb o e=>(e0.bs b o e).1;have lim:s.heap.NoLimit:=e0.mod.nolimit.keeps λb o e=>(e0.bs b o e).1;have hkind:∀y∈ps.zip us,scope.names.lookup y.1=some .local\/(scope.names.lookup y.1=some .cell/\((cellsFrom (s.heap.objs.size+1) scope.names []).lookup y.1).isSome=true):=λ⟨n,v⟩ hy=>by
  rcases S.par n (List.of_mem_zip hy).1 with q|q
  ·exact .inl q
  ·exact .inr ⟨q,W.cellsFrom_some _ _ _ (.inl q)⟩
 refine codeAny_call_function hr.depth (KX _ _ lk) rfl S.co S.gen rfl (W.codeRec_of KX hcd) (hb _ _ _ _ ?_);refine wpAny_newFunctionEnv_cells S.kind hkind λenv he s1 x=>?_;subst he;refine⟨lim.keeps x.toInCall.keep,codeAny_func ?_⟩;obtain⟨t,ht,hq⟩:=hbody A outer s H vs Q E (hr.deeper _) hsp;have I:Inv (cxOf CX P w K mg base N qual scope f cdv A outer s H E) [] (start N vs) H s1:=inv_start S hr.hd e0 hl r x;refine wpAny_mono (ht [] s1 (start N vs) H _ I hq) (λfl s' hs=>?_) λe s' hs=>hs;have fin:∀{σ':St} {H':Hp} {v:V} {u:Value},Inv (cxOf CX P w K mg base N qual scope f cdv A outer s H E) [] σ' H' s'->RelV v u->Q v H'->CE outer P w H s Q u s':=
  λ{σ' H' v u} J rv q=>⟨v,H',J.os,J.bare,J.base,J.hok,rv,q⟩
 cases fl with
 |ret u=>
  obtain⟨v,σ',H',J,rv,q⟩:=hs;exact fin J rv q
 |next=>
  obtain⟨σ',H',J,q⟩:=hs;exact fin (v:=V.non) (u:=Value.none) J rfl q
 |brk=>
  obtain⟨_,_,_,q⟩:=hs;exact False.elim q
 |cont=>
  obtain⟨_,_,_,q⟩:=hs;exact False.elim q
end L2
namespace L2
open PySem PySem.Spec PyProof.Rows
section
variable {X:Cx}{x:Str}{p pos:Pos}{e:Expr}{es:List Expr}{t:TA}{id T:String}{r:List V->Hp->VK->Prop}
def tCB(r:List V->Hp->VK->Prop)(t:TA):TE:=λσ H Q=>t σ H λvs H1=>r vs H1 Q
theorem ZF(hc:VB X (.builtin id) r)(hg:Gl X x)(hm:X.mg x=none)(hv:bootBuiltins x=some (.builtin id))(ha:PA X (e::es) t)(hn:x≠"__name__":=by decide)(hdb:(x==("__debug__":Str))=false:=by decide)
 (he:starEach (e::es) X.env=(false,eval e X.env)::starEach es X.env:=by rfl)(hpl:(backTo pos (starEach es X.env)).any (·.1)=false:=by rfl):PE X (.Call (.Name x p) (e::es) [] pos) (tCB r t):=by
 intro pins s σ H Q I h;refine wpAny_Call_Name_kw (Tn I hg hm hv ?_ hn hdb);exact PyProof.Rows.callWith_builtin1 (thn (ha pos pins s σ H _ I h) λus s1 ⟨vs,H1,I1,r1,q1⟩=>hc pins s1 σ H1 vs us Q I1 r1 q1) he hpl
theorem UR(hc:VB X (.type T) r)(hg:Gl X x)(hm:X.mg x=none)(hv:bootBuiltins x=some (.type T))(ha:PA X (e::es) t)(hn:x≠"__name__":=by decide)(hdb:(x==("__debug__":Str))=false:=by decide)
 (he:starEach (e::es) X.env=(false,eval e X.env)::starEach es X.env:=by rfl)(hpl:(backTo pos (starEach es X.env)).any (·.1)=false:=by rfl):PE X (.Call (.Name x p) (e::es) [] pos) (tCB r t):=by
 intro pins s σ H Q I h;refine wpAny_Call_Name_kw (Tn I hg hm hv ?_ hn hdb);exact PyProof.Rows.callWith_type1 (thn (ha pos pins s σ H _ I h) λus s1 ⟨vs,H1,I1,r1,q1⟩=>hc pins s1 σ H1 vs us Q I1 r1 q1) he hpl
end
end L2
namespace L2
open PySem PySem.Spec PyProof.Rows
section
variable {κ:Type}[DecidableEq κ]
noncomputable def valV(kvs:List (κ×V))(k:κ):Option V:=(kvs.find? λkv=>decide (kv.1=k)).map (·.2)
noncomputable def putK(kvs:List (κ×V))(k:κ)(v:V):List (κ×V):=
 if (kvs.any λkv=>decide (kv.1=k))=true then kvs.map (λkv=>if kv.1=k then (kv.1,v) else kv) else kvs++[(k,v)]
noncomputable def YI(kvs:List (κ×V))(k:κ):List (κ×V):=kvs.filter λkv=>decide (kv.1≠k)
theorem Tp{p:κ×V}{r:List (κ×V)}{k:κ}(e:p.1=k):valV (p::r) k=some p.2:=by simp[valV,List.find?_cons,e]
theorem Tq{p:κ×V}{r:List (κ×V)}{k:κ}(e: ¬p.1=k):valV (p::r) k=valV r k:=by simp[valV,List.find?_cons,e]
theorem Rm(k:κ):∀kvs:List (κ×V),(kvs.any λkv=>decide (kv.1=k))=(valV kvs k).isSome
 |[]=>rfl
 |p::r=>by
  rw[List.any_cons];by_cases e:p.1=k
  ·simp only[Tp e,decide_eq_true e,Bool.true_or,Option.isSome_some]
  ·rw[Tq e,decide_eq_false e,Bool.false_or];exact Rm k r
theorem UB(kvs:List (κ×V))(k:κ)(v:V):(putK kvs k v).length<=kvs.length+1:=by
 unfold putK;split
 ·rw[List.length_map];omega
 ·rw[List.length_append,List.length_cons,List.length_nil];omega
theorem RelO.isSome_eq{o:Option V}{u:Option Value}(r:RelO o u):o.isSome=u.isSome:=by
 cases o with
 |none=>cases u with
  |none=>rfl
  |some _=>exact(show False from r).elim
 |some _=>cases u with
  |none=>exact(show False from r).elim
  |some _=>rfl
theorem RelO.getD{o:Option V}{u:Option Value}{d:V}{d':Value}(r:RelO o u)(rd:RelV d d'):RelV (o.getD d) (u.getD d'):=by
 cases o with
 |none=>cases u with
  |none=>exact rd
  |some _=>exact(show False from r).elim
 |some _=>cases u with
  |none=>exact(show False from r).elim
  |some _=>exact r
theorem KV.val{kvs:List (κ×V)}{vs:List (κ×Value)}(r:KV kvs vs)(k:κ):RelO (valV kvs k) (valueAt vs k):=by
 unfold KV at r;induction r with
 |nil=>exact True.intro
 | @cons p q ps qs h t ih=>
  obtain⟨h1,h2⟩:=h;by_cases e:p.1=k
  ·have e':q.1=k:=h1.symm.trans e;have b:valueAt (q::qs) k=some q.2:=by simp[valueAt,List.find?_cons,e']
   rw[Tp e,b];exact h2
  ·have e': ¬q.1=k:=λz=>e (h1.trans z);have b:valueAt (q::qs) k=valueAt qs k:=by simp[valueAt,List.find?_cons,e']
   rw[Tq e,b];exact ih
theorem KV.any{kvs:List (κ×V)}{vs:List (κ×Value)}(r:KV kvs vs)(k:κ):(kvs.any λkv=>decide (kv.1=k))=vs.any λkv=>decide (kv.1=k):=by
 unfold KV at r;induction r with
 |nil=>rfl
 |cons h t ih=>rw[List.any_cons,List.any_cons,ih,h.1]
theorem KV.repl{kvs:List (κ×V)}{vs:List (κ×Value)}(r:KV kvs vs)(k:κ){y:V}{u:Value}(ry:RelV y u):
  KV (kvs.map λkv=>if kv.1=k then (kv.1,y) else kv) (vs.map λkv=>if kv.1=k then (kv.1,u) else kv):=by
 unfold KV at r ⊢;induction r with
 |nil=>exact .nil
 | @cons p q ps qs h t ih=>
  rw[List.map_cons,List.map_cons];refine .cons ?_ ih;obtain⟨h1,h2⟩:=h;by_cases e:p.1=k
  ·rw[if_pos e,if_pos (h1.symm.trans e)];exact⟨h1,ry⟩
  ·rw[if_neg e,if_neg (λz=>e (h1.trans z))];exact⟨h1,h2⟩
theorem KV.put{kvs:List (κ×V)}{vs:List (κ×Value)}(r:KV kvs vs)(k:κ){y:V}{u:Value}(ry:RelV y u):KV (putK kvs k y) (stored vs k u):=by
 unfold putK stored;rw[r.any k];by_cases e:(vs.any λkv=>decide (kv.1=k))=true
 ·rw[if_pos e,if_pos e];exact r.repl k ry
 ·rw[if_neg e,if_neg e];exact Paired.snoc r ⟨rfl,ry⟩
theorem KV.drop{kvs:List (κ×V)}{vs:List (κ×Value)}(r:KV kvs vs)(k:κ):KV (YI kvs k) (without vs k):=by
 unfold KV at r ⊢;unfold YI without;induction r with
 |nil=>exact .nil
 | @cons p q ps qs h t ih=>
  obtain⟨h1,h2⟩:=h;rw[List.filter_cons,List.filter_cons];by_cases e:p.1=k
  ·have a: ¬decide (p.1≠k)=true:=by simp[e]
   have b: ¬decide (q.1≠k)=true:=by simp[h1.symm.trans e]
   rw[if_neg a,if_neg b];exact ih
  ·have e': ¬q.1=k:=λz=>e (h1.trans z);have a:decide (p.1≠k)=true:=by simp[e]
   have b:decide (q.1≠k)=true:=by simp[e']
   rw[if_pos a,if_pos b];exact .cons ⟨h1,h2⟩ ih
theorem KV.length{kvs:List (κ×V)}{vs:List (κ×Value)}(r:KV kvs vs):kvs.length=vs.length:=Paired.length r
theorem dropK_le(kvs:List (κ×V))(k:κ):(YI kvs k).length<=kvs.length:=List.length_filter_le _ _
end
theorem SG{P:Program}{w:World}{k:Key}{u:Value}(r:RelV (kV k) u):(ZO P w).is k u=true:=by
 cases k with
 |inl i=>obtain⟨t,e⟩:=(show ∃t,u=Value.int i t from r);subst e;exact mixKind_int P w i t
 |inr x=>obtain⟨t,e⟩:=(show ∃t,u=Value.str x t from r);subst e;exact mixKind_str P w x t
theorem QC{P:Program}{w:World}:∀{ks:List Key} {us:List Value},Vals (ks.map kV) us->ItemsAre (ZO P w) ks us
 |[],_,r=>by rw[List.map_nil] at r;cases r;exact .nil
 |k::ks,_,r=>by
  rw[List.map_cons] at r;cases r with
  |cons h t=>exact .cons (SG h) (QC t)
abbrev KT(H:Hp):List (List Key×V)->List (List Key×Addr×Value)->Prop:=Paired λp q=>p.1=q.1/\H q.2.1=some (.tup (p.1.map kV))/\RelV p.2 q.2.2
theorem KT.val{H:Hp}{kvs:List (List Key×V)}{xs:List (List Key×Addr×Value)}(r:KT H kvs xs)(k:List Key):RelO (valV kvs k) ((atKey xs k).map (·.2)):=by
 induction r with
 |nil=>exact True.intro
 | @cons p q ps qs h t ih=>
  obtain⟨h1,_,h2⟩:=h;by_cases e:p.1=k
  ·have e':q.1=k:=h1.symm.trans e;have b:atKey (q::qs) k=some q.2:=by simp[atKey,List.find?_cons,e']
   rw[Tp e,b];exact h2
  ·have e': ¬q.1=k:=λz=>e (h1.trans z);have b:atKey (q::qs) k=atKey qs k:=by simp[atKey,List.find?_cons,e']
   rw[Tq e,b];exact ih
theorem KT.repl{H:Hp}{kvs:List (List Key×V)}{xs:List (List Key×Addr×Value)}(r:KT H kvs xs)(k:List Key){y:V}{u:Value}(ry:RelV y u):
  KT H (kvs.map λkv=>if kv.1=k then (kv.1,y) else kv) (xs.map (putAt k u)):=by
 induction r with
 |nil=>exact .nil
 | @cons p q ps qs h t ih=>
  rw[List.map_cons,List.map_cons];refine .cons ?_ ih;obtain⟨h1,h2,h3⟩:=h;unfold putAt;by_cases e:p.1=k
  ·rw[if_pos e,if_pos (h1.symm.trans e)];exact⟨h1,h2,ry⟩
  ·rw[if_neg e,if_neg (λz=>e (h1.trans z))];exact⟨h1,h2,h3⟩
theorem KT.put{H:Hp}{kvs:List (List Key×V)}{xs:List (List Key×Addr×Value)}(r:KT H kvs xs)(k:List Key){b:Addr}{y:V}{u:Value}(hb:H b=some (.tup (k.map kV)))(ry:RelV y u):
  KT H (putK kvs k y) (storedH xs k b u):=by
 have e:(kvs.any λkv=>decide (kv.1=k))=(atKey xs k).isSome:=by
  rw[Rm,(r.val k).isSome_eq,Option.isSome_map]
 unfold putK storedH;rw[e];by_cases q:(atKey xs k).isSome=true
 ·rw[if_pos q,if_pos q];exact r.repl k ry
 ·rw[if_neg q,if_neg q];exact Paired.snoc r ⟨rfl,hb,ry⟩
theorem KT.keeps{H H':Hp}{kvs:List (List Key×V)}{xs:List (List Key×Addr×Value)}(r:KT H kvs xs)(ht:∀b ys,H b=some (.tup ys)->H' b=some (.tup ys)):KT H' kvs xs:=
 Paired.mapP r λ_ _ z=>⟨z.1,ht _ _ z.2.1,z.2.2⟩
section
variable {P:Program}{w:World}{H:Hp}{h:Heap}{a:Addr}
theorem rd_of{u:HO}(ok:HOk P w H h)(e:Rd H a u):ObjOk P w H h a u:=e.ok ok
theorem SJ{kvs:List (Key×V)}(ok:HOk P w H h)(e:Rd H a (.dK kvs)):kvs.length<=sizeLine/\(a==sysModules)=false/\∃vs,KV kvs vs/\h.DictOf (ZO P w) a vs:=
 show ObjOk P w H h a (.dK kvs) from rd_of ok e
theorem RT{kvs:List (Key×V)}(ok:HOk P w H h)(e:H a=some (.dK kvs)):kvs.length<=sizeLine/\(a==sysModules)=false/\∃vs,KV kvs vs/\h.DictOf (ZO P w) a vs:=SJ ok (.inl e)
theorem Su{ks:List Key}(ok:HOk P w H h)(e:H a=some (.tup (ks.map kV))):(tupleKind (ZO P w)).is h ks a:=by
 obtain⟨_,its,r,o,h1,h2,n,h3⟩:=(show ObjOk P w H h a (.tup (ks.map kV)) from ok a _ e);exact⟨o,its.toArray,n,h1,h2,h3,by simpa using QC r⟩
theorem RS{kvs:List (List Key×V)}(ok:HOk P w H h)(e:Rd H a (.dT kvs)):kvs.length<=sizeLine/\(a==sysModules)=false/\
  ∃xs,KT H kvs xs/\h.DictOfH (tupleKind (ZO P w)) a xs:=by
 obtain⟨z,y,xs,r,o,es,ep,h1,h2,h3,h4,h5⟩:=(show ObjOk P w H h a (.dT kvs) from rd_of ok e);refine⟨z,y,xs,r,o,es,ep,h1,h2,h3,h4,λx hx=>?_,h5⟩;have all:∀{l:List (List Key×V)} {m:List (List Key×Addr×Value)},KT H l m->∀x∈m,(tupleKind (ZO P w)).is h x.1 x.2.1:=by
  intro l m q;induction q with
  |nil=>intro x hx;exact nomatch hx
  | @cons p q ps qs hq t ih=>
   intro x hx;rcases List.mem_cons.mp hx with e|hx
   ·subst e;exact Su ok (by rw[←hq.1];exact hq.2.1)
   ·exact ih x hx
 exact all r x hx
theorem dt_of{kvs:List (List Key×V)}(ok:HOk P w H h)(e:H a=some (.dT kvs)):kvs.length<=sizeLine/\(a==sysModules)=false/\
  ∃xs,KT H kvs xs/\h.DictOfH (tupleKind (ZO P w)) a xs:=RS ok (.inl e)
end
def DGet(H:Hp)(a:Addr)(y:V)(r:Option V):Prop:=
 (∃kvs k,Rd H a (.dK kvs)/\y=kV k/\r=valV kvs k)\/∃kvs k b,Rd H a (.dT kvs)/\y= .ref b/\H b=some (.tup (k.map kV))/\r=valV kvs k
def DPut(H:Hp)(a:Addr)(y v:V)(H':Hp):Prop:=
 (∃kvs k,H a=some (.dK kvs)/\y=kV k/\kvs.length<sizeLine/\H'=upd H a (.dK (putK kvs k v)))\/
 ∃kvs k b,H a=some (.dT kvs)/\y= .ref b/\H b=some (.tup (k.map kV))/\kvs.length<sizeLine/\H'=upd H a (.dT (putK kvs k v))
theorem DGet.k{H:Hp}{a:Addr}{kvs:List (Key×V)}{k:Key}(e:H a=some (.dK kvs)):DGet H a (kV k) (valV kvs k):=.inl ⟨kvs,k,.inl e,rfl,rfl⟩
theorem DPut.k{H:Hp}{a:Addr}{kvs:List (Key×V)}{k:Key}{v:V}(e:H a=some (.dK kvs))(hl:kvs.length<sizeLine):DPut H a (kV k) v (upd H a (.dK (putK kvs k v))):=.inl ⟨kvs,k,e,rfl,hl,rfl⟩
section
variable {X:Cx}{pins:List (Addr×Obj)}{σ:St}{H:Hp}{s:Shared}{a:Addr}{y v:V}{u r:Value}{o:Option V}{A:Around}{E:Value->Shared->Prop}
theorem Inv.big(I:Inv X pins σ H s):sysModules<s.heap.objs.size:=by
 have h:mainGlobals<s.heap.objs.size:=(I.mod.glob.keeps I.bk).lt;exact Nat.lt_trans (by decide) h
theorem d_getItem{Q:Value->Shared->Prop}(hu:A.units+1<cLine)(I:Inv X pins σ H s)(g:DGet H a y (some v))(ry:RelV y u)(h:∀w' s',Inv X pins σ H s'->RelV v w'->Q w' s'):
  wpAny (model X.prog X.w) A (getItem (.ref a) u) Q E s:=by
 rcases g with ⟨kvs,k,e,ey,l⟩|⟨kvs,k,b,e,ey,eb,l⟩
 ·subst ey;obtain⟨z,hd,vs,rel,dd⟩:=SJ I.hok e;obtain⟨w',hw,rw'⟩:=RelO.some_of (v:=v) (o:=valueAt vs k) (by rw[l];exact rel.val k);exact wpAny_getItem_of (SG ry) dd.mapOf hw (h w' _ (I.tok _) rw')
 ·subst ey;cases (show u=Value.ref b from ry);obtain⟨z,hd,xs,rel,dd⟩:=RS I.hok e;obtain⟨w',hw,rw'⟩:=RelO.some_of (v:=v) (o:=(atKey xs k).map (·.2)) (by rw[l];exact rel.val k);obtain⟨p,hp,hp2⟩:=Option.map_eq_some_iff.mp hw;refine wpAny_getItem_heap (tupleKind_room_in1 hu) (Su I.hok eb) dd hp ?_;rw[hp2];exact h w' _ (I.tok _) rw'
theorem d_in{Q:Value->Shared->Prop}(hu:A.units+1<cLine)(I:Inv X pins σ H s)(g:DGet H a y o)(ry:RelV y u)(h:∀s',Inv X pins σ H s'->Q (.bool o.isSome) s'):
  wpAny (model X.prog X.w) A (compareOp .In u (.ref a)) Q E s:=by
 rcases g with ⟨kvs,k,e,ey,l⟩|⟨kvs,k,b,e,ey,eb,l⟩
 ·subst ey;obtain⟨z,hd,vs,rel,dd⟩:=SJ I.hok e;refine wpAny_in_of (SG ry) hd dd.mapOf ?_;rw[←(rel.val k).isSome_eq,←l];exact h _ (I.tok _)
 ·subst ey;cases (show u=Value.ref b from ry);obtain⟨z,hd,xs,rel,dd⟩:=RS I.hok e;refine wpAny_in_heap (tupleKind_room_in1 hu) (Su I.hok eb) hd dd ?_;have q:=(rel.val k).isSome_eq;rw[Option.isSome_map] at q;rw[←q,←l];exact h _ (I.tok _)
theorem d_notIn{Q:Value->Shared->Prop}(hu:A.units+1<cLine)(I:Inv X pins σ H s)(g:DGet H a y o)(ry:RelV y u)(h:∀s',Inv X pins σ H s'->Q (.bool (!o.isSome)) s'):
  wpAny (model X.prog X.w) A (compareOp .NotIn u (.ref a)) Q E s:=by
 rcases g with ⟨kvs,k,e,ey,l⟩|⟨kvs,k,b,e,ey,eb,l⟩
 ·subst ey;obtain⟨z,hd,vs,rel,dd⟩:=SJ I.hok e;refine wpAny_notIn_of (SG ry) hd dd.mapOf ?_;rw[←(rel.val k).isSome_eq,←l];exact h _ (I.tok _)
 ·subst ey;cases (show u=Value.ref b from ry);obtain⟨z,hd,xs,rel,dd⟩:=RS I.hok e;refine wpAny_notIn_heap (tupleKind_room_in1 hu) (Su I.hok eb) hd dd ?_;have q:=(rel.val k).isSome_eq;rw[Option.isSome_map] at q;rw[←q,←l];exact h _ (I.tok _)
theorem Rh{h':Heap}{t':Nat}{ob:HO}(I:Inv X pins σ H s)(mu:Mut (H a))(hs:Heap.SameBut a s.heap h')(he:∃q,h'.get? a=some q)(new:ObjOk X.prog X.w (upd H a ob) h' a ob):
  Inv X pins σ (upd H a ob) {s with heap:=h',toks:=t'}:=
 I.write (x:=a) (e:=a) mu (.inl rfl) (λb q hb z=>(hs.2 b hb).trans z) he new
theorem dk_new{P:Program}{w:World}{H':Hp}{h':Heap}{kvs:List (Key×V)}{vs:List (Key×Value)}(z:kvs.length<=sizeLine)(hd:(a==sysModules)=false)(rel:KV kvs vs)(dd:h'.DictOf (ZO P w) a vs):
  ObjOk P w H' h' a (.dK kvs):=⟨z,hd,vs,rel,dd⟩
theorem d_setItem{H':Hp}{Q:Unit->Shared->Prop}(hu:A.units+1<cLine)(I:Inv X pins σ H s)(g:DPut H a y v H')(ry:RelV y u)(rv:RelV v r)(h:∀s',Inv X pins σ H' s'->Q () s'):
  wpAny (model X.prog X.w) A (setItem (.ref a) u r) Q E s:=by
 rcases g with ⟨kvs,k,e,ey,l,eH⟩|⟨kvs,k,b,e,ey,eb,l,eH⟩
 ·subst ey eH;obtain⟨z,hd,vs,rel,dd⟩:=RT I.hok e;have hz:vs.length<=sizeLine:=by rw[←rel.length];exact z
  have hl:(putK kvs k v).length<=sizeLine:=by have:=UB kvs k v;omega
  refine wpAny_setItem_pairs (hsz:=hz) (SG ry) dd λh' dd' hs=>h _ ?_;have he:∃q,h'.get? a=some q:=let ⟨q,_,_,hq,_⟩:=dd';⟨q,hq⟩
  exact Rh I (by rw[e];exact True.intro) hs he (dk_new hl hd (rel.put k rv) dd')
 ·subst ey eH;cases (show u=Value.ref b from ry);obtain⟨z,hd,xs,rel,dd⟩:=dt_of I.hok e;have hz:xs.length<=sizeLine:=by rw[←Paired.length rel];exact z
  have hl:(putK kvs k v).length<=sizeLine:=by have:=UB kvs k v;omega
  refine wpAny_setItem_heap (hsz:=hz) (tupleKind_room_in1 hu) (Su I.hok eb) dd λh' dd' hs=>h _ ?_;obtain⟨q,es,ep,hq,h2,h3,h4,_,h5⟩:=dd';refine Rh I (by rw[e];exact True.intro) hs ⟨q,hq⟩ ⟨hl,hd,_,(rel.put k eb rv).keeps λc ys ec=>?_,q,es,ep,hq,h2,h3,h4,h5⟩;rw[Zc (ne_of ec e (λz=>nomatch z))];exact ec
end
section
variable {X:Cx}{pins:List (Addr×Obj)}{σ:St}{H:Hp}{s:Shared}{a:Addr}{kvs:List (Key×V)}{k:Key}{u:Value}{A:Around}{E:Value->Shared->Prop}
theorem d_pop{v:V}{more:List Value}{Q:Value->Shared->Prop}(I:Inv X pins σ H s)(e:H a=some (.dK kvs))(ry:RelV (kV k) u)(l:valV kvs k=some v)(hm:more=[]\/∃x,more=[x])
 (h:∀w' s',Inv X pins σ (upd H a (.dK (YI kvs k))) s'->RelV v w'->Q w' s'):wpAny (model X.prog X.w) A (call (.builtin "dict.pop") (.ref a::u::more)) Q E s:=by
 obtain⟨z,hd,vs,rel,dd⟩:=RT I.hok e;obtain⟨w',hw,rw'⟩:=RelO.some_of (v:=v) (o:=valueAt vs k) (by rw[←l];exact rel.val k);have hp:(keyPart u).isSome=true:=by
  cases k with
  |inl i=>obtain⟨t,q⟩:=(show ∃t,u=Value.int i t from ry);subst q;rfl
  |inr x=>obtain⟨t,q⟩:=(show ∃t,u=Value.str x t from ry);subst q;rfl
 have ha:argsOk "dict.pop" ⟨.ref a::u::more,[]⟩:=by
  rcases hm with q|⟨x,q⟩
  ·subst q;exact F.args_dict_pop_2 _ _
  ·subst q;exact F.args_dict_pop_3 _ _ _
 refine call_meetsIn F.slot_dict_pop dd.typeIs F.entry_dict_pop ha (meets_dict_pop_there (ZO X.prog X.w) a (SG ry) more hm hp)
  ⟨vs,w',dd,by rw[←rel.length];exact z,hw,λh' dd' hs=>h w' _ ?_ rw'⟩
 have he:∃q,h'.get? a=some q:=let ⟨q,_,_,hq,_⟩:=dd';⟨q,hq⟩
 exact Rh I (by rw[e];exact True.intro) hs he (dk_new (Nat.le_trans (dropK_le kvs k) z) hd (rel.drop k) dd')
theorem d_len{Q:Value->Shared->Prop}(I:Inv X pins σ H s)(e:Rd H a (.dK kvs))(h:∀t s',Inv X pins σ H s'->Q (.int kvs.length t) s'):wpAny (model X.prog X.w) A (call (.builtin "len") [.ref a]) Q E s:=by
 obtain⟨z,hd,vs,rel,dd⟩:=SJ I.hok e;refine call_len_dict hd dd (by rw[←rel.length];rw[sizeLine_eq] at z;omega) ?_;rw[←rel.length];exact h _ _ (I.tok _)
end
def NoSl(i:Expr):Prop:=∀ov iv,subscripted i false ov iv=operate [ov,iv] (getItem ov iv)
theorem subD_of{prog:Program}{w:World}{A:Around}{E:Value->Shared->Prop}{s:Shared}{env:Env}{value slice:Expr}{pos:Pos}{T id:String}{Q:Value->Shared->Prop}
 (hl:typeLookup (.type T) "__getitem__"=pure (some (.builtin id)))(hs:NoSl slice)
 (h:wpAny (model prog w) A (eval value env) (λo s₁=>wpAny (model prog w) A (eval slice env) (λi s₂=>s₂.TypeIs o T/\wpAny (model prog w) A (getItem o i) Q E s₂) E s₁) E s):
  wpAny (model prog w) A (eval (.Subscript value slice pos) env) Q E s:=by
 refine Subscript_ (wpAny_mono h (λo s₁ h₁=>wpAny_mono h₁ (λi s₂ h₂=>?_) λ_ _ x=>x) λ_ _ x=>x);obtain⟨hT,h₂⟩:=h₂;unfold subscriptTail;refine wpAny_bind ?_;rw[getitemInPython_of_ne hT.not_modules];refine wpAny_bind (wpAny_specialOf hT hl ?_);have fin:wpAny (model prog w) A (subscripted slice false o i) (λr s₃=>wpAny (model prog w) A (letTemporaryGo value o r >>= λ_=>pure r) Q E s₃) E s₂:=by
  rw[hs o i];exact wpAny_operating (wpAny_mono h₂ (λr s₃ h₃=>wpAny_bind (wpAny_letTemporaryGo (wpAny_pure h₃))) λ_ _ x=>x)
 first
  |exact wpAny_pure (wpAny_bind fin)
  |exact wpAny_bind (wpAny_pure (wpAny_bind fin))
  |exact wpAny_bind fin
theorem dict_typeIs{X:Cx}{pins:List (Addr×Obj)}{σ:St}{H:Hp}{s:Shared}{a:Addr}{y:V}{o:Option V}(I:Inv X pins σ H s)(g:DGet H a y o):s.TypeIs (.ref a) "dict":=by
 rcases g with ⟨kvs,k,e,_,_⟩|⟨kvs,k,b,e,_,_,_⟩
 ·obtain⟨_,_,vs,_,dd⟩:=SJ I.hok e;exact dd.typeIs
 ·obtain⟨_,_,xs,_,dd⟩:=RS I.hok e;exact dd.typeIs
def tDGet(td ty:TE):TE:=λσ H Q=>td σ H λx H1=>ty σ H1 λy H2=>∃a v,x= .ref a/\DGet H2 a y (some v)/\Q v H2
def tDIn(ty td:TE):TE:=λσ H Q=>ty σ H λy H1=>td σ H1 λx H2=>∃a o,x= .ref a/\DGet H2 a y o/\Q (.bl o.isSome) H2
def tDNotIn(ty td:TE):TE:=λσ H Q=>ty σ H λy H1=>td σ H1 λx H2=>∃a o,x= .ref a/\DGet H2 a y o/\Q (.bl (!o.isSome)) H2
def sDPut(td ty tv:TE):TS:=λD σ H=>tv σ H λv H1=>td σ H1 λx H2=>ty σ H2 λy H3=>∃a H4,x= .ref a/\DPut H3 a y v H4/\D.nx σ H4
section
variable {X:Cx}{o i e value:Expr}{pos pos' tpos:Pos}{td ty tv:TE}
theorem Zr(hu:X.A.units+1<cLine)(ho:PE X o td)(hi:PE X i ty)(hs:NoSl i):PE X (.Subscript o i pos) (tDGet td ty):=by
 intro pins s σ H Q I h;refine subD_of F.slot_dict_getitem.lookup hs (thn (ho pins s σ H _ I h) λu s1 ⟨x,H1,I1,rx,q1⟩=>thn (hi pins s1 σ H1 _ I1 q1) λiv s2 ⟨y,H2,I2,ry,a,v,ex,g,q2⟩=>?_);subst ex;obtain rfl:u=Value.ref a:=rx;exact⟨dict_typeIs I2 g,d_getItem hu I2 g ry λw' s3 I3 rw'=>⟨v,H2,I3,rw',q2⟩⟩
theorem pc_din(hu:X.A.units+1<cLine)(hi:PE X i ty)(ho:PE X o td):PC X .In i o (tDIn ty td):=by
 intro pins s σ H Q I h;refine thn (hi pins s σ H _ I h) λiv s1 ⟨y,H1,I1,ry,q1⟩=>thn (ho pins s1 σ H1 _ I1 q1) λu s2 ⟨x,H2,I2,rx,a,ov,ex,g,q2⟩=>?_;subst ex;obtain rfl:u=Value.ref a:=rx;exact d_in hu I2 g ry λs3 I3=>⟨.bl ov.isSome,H2,I3,rfl,q2⟩
theorem Vt(hu:X.A.units+1<cLine)(hi:PE X i ty)(ho:PE X o td):PC X .NotIn i o (tDNotIn ty td):=by
 intro pins s σ H Q I h;refine thn (hi pins s σ H _ I h) λiv s1 ⟨y,H1,I1,ry,q1⟩=>thn (ho pins s1 σ H1 _ I1 q1) λu s2 ⟨x,H2,I2,rx,a,ov,ex,g,q2⟩=>?_;subst ex;obtain rfl:u=Value.ref a:=rx;exact d_notIn hu I2 g ry λs3 I3=>⟨.bl (!ov.isSome),H2,I3,rfl,q2⟩
theorem YM(hu:X.A.units+1<cLine)(ho:PE X o td)(hi:PE X i ty)(hv:PE X value tv)(hs:swapsWith value (some (.Subscript o i pos')) pos.line X.env=pure false):
  PS X (.Assign [.Subscript o i pos'] value pos) (sDPut td ty tv):=by
 intro pins s σ H D I h;refine wpAny_Assign_Subscript (thn (hv pins s σ H _ I h) λr s1 ⟨v,H1,I1,rv,q1⟩=>thn (ho pins s1 σ H1 _ I1 q1) λu s2 ⟨x,H2,I2,rx,q2⟩=>thn (hi pins s2 σ H2 _ I2 q2) λiv s3 ⟨y,H3,I3,ry,a,H4,ex,g,q3⟩=>?_) hs;subst ex;obtain rfl:u=Value.ref a:=rx;exact d_setItem hu I3 g ry rv λs4 I4=>⟨σ,H4,I4,q3⟩
end
theorem dk_empty{P:Program}{w:World}{H:Hp}(h:Heap)(hb:sysModules<h.objs.size):ObjOk P w H (h.push {cls:=.type "dict",data:=.dict #[]}) h.objs.size (.dK []):=
 ⟨Nat.zero_le _,beq_eq_false_iff_ne.mpr (Ne.symm (Nat.ne_of_lt hb)),[],.nil,Heap.DictOf.new h⟩
def tDNewK:TE:=λ_ H Q=>∀p,H p=none->Q (.ref p) (upd H p (.dK []))
section
variable {X:Cx}{pos:Pos}
theorem XI:PE X (.Dict [] [] pos) tDNewK:=λpins s σ H Q I h=>
 wpAny_Dict_empty ⟨.ref s.heap.objs.size,_,I.laid (a:=s.heap.objs.size) (o:=.dK []) (t':=s.toks) (λ_ _ q=>Heap.get?_push_of_some _ q) (Nat.le_refl _) (dk_empty s.heap I.big),rfl,h _ (I.hok.fresh (Nat.le_refl _))⟩
end
def tPairs:List (TE×TE)->St->Hp->(List (V×V)->Hp->Prop)->Prop
 |[],_,H,Q=>Q [] H
 |(tk,tv)::r,σ,H,Q=>tk σ H λx H1=>tv σ H1 λy H2=>tPairs r σ H2 λps H3=>Q ((x,y)::ps) H3
abbrev VV:List (V×V)->List (Value×Value)->Prop:=Paired λp q=>RelV p.1 q.1/\RelV p.2 q.2
def PPs(X:Cx)(pos:Pos)(keys:List (Option Expr))(values:List Expr)(trs:List (TE×TE)):Prop:=
 ∀(pins:List (Addr×Obj)) (s:Shared) (σ:St) (H:Hp) (Q:List (V×V)->Hp->Prop),Inv X pins σ H s->tPairs trs σ H Q->
  wpAny (model X.prog X.w) X.A (evalPairs (pairTrees keys values X.env pos)) (λvs s'=>∃ps H',Inv X pins σ H' s'/\VV ps vs/\Q ps H') X.xe s
theorem pps_nil{X:Cx}{pos:Pos}:PPs X pos [] [] []:=λpins s σ H Q I h=>pairTrees_nil_walk ⟨[],H,I,.nil,h⟩
theorem VS{X:Cx}{pos:Pos}{k v:Expr}{ks:List (Option Expr)}{vs:List Expr}{tk tv:TE}{trs:List (TE×TE)}(hk:PE X k tk)(hv:PE X v tv)(hr:PPs X pos ks vs trs):
  PPs X pos (some k::ks) (v::vs) ((tk,tv)::trs):=λpins s σ H Q I h=>
 pairTrees_cons_walk (thn (hk pins s σ H _ I h) λu s1 ⟨x,H1,I1,rx,q1⟩=>thn (hv pins s1 σ H1 _ I1 q1) λw2 s2 ⟨y,H2,I2,ry,q2⟩=>
  thn (hr pins s2 σ H2 _ I2 q2) λws s3 ⟨ps,H3,I3,rel,q3⟩=>⟨(x,y)::ps,H3,I3,.cons ⟨rx,ry⟩ rel,q3⟩)
noncomputable def Sq(kvs more:List (Key×V)):List (Key×V):=more.foldl (λacc kv=>putK acc kv.1 kv.2) kvs
theorem KV.merge:∀{more:List (Key×V)} {rs:List (Key×Value)} {kvs:List (Key×V)} {vs:List (Key×Value)},KV more rs->KV kvs vs->KV (Sq kvs more) (merged vs rs):=by
 intro more rs kvs vs r;unfold KV at r;induction r generalizing kvs vs with
 |nil=>intro q;exact q
 | @cons p q ps qs h t ih=>
  intro r0;have e:KV (putK kvs p.1 p.2) (stored vs q.1 q.2):=by
   have:=r0.put p.1 h.2;rw[←h.1];exact this
  exact ih e
theorem Te:∀(more kvs:List (Key×V)),(Sq kvs more).length<=kvs.length+more.length
 |[],kvs=>by show kvs.length<=kvs.length+0;omega
 |p::r,kvs=>by
  have h1:=Te r (putK kvs p.1 p.2);have h2:=UB kvs p.1 p.2;show (Sq (putK kvs p.1 p.2) r).length<=_;rw[List.length_cons];omega
theorem RU{P:Program}{w:World}:∀{kvs:List (Key×V)} {ws:List (Value×Value)},VV (kvs.map λkv=>(kV kv.1,kv.2)) ws->∃rs,Carries (ZO P w) ws rs/\KV kvs rs
 |[],_,r=>by rw[List.map_nil] at r;cases r;exact⟨[],True.intro,.nil⟩
 |p::kvs,_,r=>by
  rw[List.map_cons] at r;cases r with
  | @cons a b as bs h t=>
   obtain⟨rs,c,q⟩:=RU (P:=P) (w:=w) t;obtain⟨b1,b2⟩:=b;exact⟨(p.1,b2)::rs,⟨SG h.1,rfl,c⟩,.cons ⟨rfl,h.2⟩ q⟩
def tDisp(trs:List (TE×TE)):TE:=λσ H Q=>∀p,H p=none->tPairs trs σ (upd H p (.dK [])) λps H2=>H2 p=some (.dK [])/\∃kvs:List (Key×V),ps=kvs.map (λkv=>(kV kv.1,kv.2))/\kvs.length<=15/\Q (.ref p) (upd H2 p (.dK (Sq [] kvs)))
theorem pe_disp{X:Cx}{pos:Pos}{keys:List (Option Expr)}{values:List Expr}{trs:List (TE×TE)}(h:PPs X pos keys values trs)(hall:keys.all (·.isSome)=true)(hl:keys.length=values.length)(h0:keys≠[])
 (h15:keys.length<=15):PE X (.Dict keys values pos) (tDisp trs):=by
 intro pins s σ H Q I q;have hn:=I.hok.fresh (Nat.le_refl s.heap.objs.size);have I1:=I.laid (a:=s.heap.objs.size) (o:=.dK []) (h':=s.heap.push {cls:=.type "dict",data:=.dict #[]}) (t':=s.toks) (λ_ _ q=>Heap.get?_push_of_some _ q) (Nat.le_refl _) (dk_empty s.heap I.big);refine wpAny_Dict_walk (knd:=ZO X.prog X.w) hall hl h0 h15 (thn (h pins _ σ _ _ I1 (q _ hn)) λws s2 ⟨ps,H2,I2,rel,e,kvs,ep,lk,q2⟩=>?_);subst ep;obtain⟨rs,c,rk⟩:=RU (P:=X.prog) (w:=X.w) rel;obtain⟨z,hd,vs0,r0,dd⟩:=RT I2.hok e;cases r0;refine⟨rs,c,dd,λh' dd' hs=>⟨.ref s.heap.objs.size,_,?_,rfl,q2⟩⟩;have hz:(Sq [] kvs).length<=sizeLine:=by
  have h1:=Te kvs [];rw[List.length_nil] at h1;rw[sizeLine_eq];omega
 have he:∃q,h'.get? s.heap.objs.size=some q:=let ⟨q,_,_,hq,_⟩:=dd';⟨q,hq⟩
 exact Rh I2 (by rw[e];exact True.intro) hs he (dk_new hz hd (rk.merge .nil) dd')
structure M1(X:Cx)(o:Expr)(m:Str)(apos:Pos)(e:Expr)(cpos:Pos):Prop where
 base:attributeBase o m X.env (eval o X.env)=eval o X.env
 few:((backTo cpos (starEach [e] X.env)).all (λx=> !x.1)&&(backToKw cpos (keywordEach [] X.env)).all (λx=>x.1.isSome)
  &&decide (([e]:List Expr).length+([]:List Keyword).length+(if ([]:List Keyword).isEmpty then 0 else 1)<30))=true
 line:(apos.endLine==cpos.line)=true
 trees:backTo cpos (starEach [e] X.env)=[(false,eval e X.env)]
structure M2(X:Cx)(o:Expr)(m:Str)(apos:Pos)(e f:Expr)(cpos:Pos):Prop where
 base:attributeBase o m X.env (eval o X.env)=eval o X.env
 few:((backTo cpos (starEach [e,f] X.env)).all (λx=> !x.1)&&(backToKw cpos (keywordEach [] X.env)).all (λx=>x.1.isSome)
  &&decide (([e,f]:List Expr).length+([]:List Keyword).length+(if ([]:List Keyword).isEmpty then 0 else 1)<30))=true
 line:(apos.endLine==cpos.line)=true
 trees:backTo cpos (starEach [e,f] X.env)=[(false,eval e X.env),(false,eval f X.env)]
def IsD(H:Hp)(a:Addr):Prop:=(∃kvs,Rd H a (.dK kvs))\/∃kvs,Rd H a (.dT kvs)
theorem isD_at{X:Cx}{pins:List (Addr×Obj)}{σ:St}{H:Hp}{s:Shared}{a:Addr}(I:Inv X pins σ H s)(d:IsD H a):
  s.TypeIs (.ref a) "dict"/\(∀b,Value.ref a= .ref b->∃ob,s.heap.get? b=some ob/\ob.dict=none)/\(a==sysModules)=false:=by
 rcases d with ⟨kvs,e⟩|⟨kvs,e⟩
 ·obtain⟨_,hd,vs,_,dd⟩:=SJ I.hok e;refine⟨dd.typeIs,λb q=>?_,hd⟩;cases q;obtain⟨ob,_,_,h1,h2,_⟩:=dd;exact⟨ob,h1,h2.2.1⟩
 ·obtain⟨_,hd,xs,_,dd⟩:=RS I.hok e;refine⟨dd.typeIs,λb q=>?_,hd⟩;cases q;obtain⟨ob,_,_,h1,h2,_⟩:=dd;exact⟨ob,h1,h2.2.1⟩
section
variable {X:Cx}{pins:List (Addr×Obj)}{σ:St}{H:Hp}{s:Shared}{a:Addr}{y d:V}{u r:Value}{o:Option V}{A:Around}{E:Value->Shared->Prop}
theorem d_get2{Q:Value->Shared->Prop}(hu:A.units+1<cLine)(I:Inv X pins σ H s)(g:DGet H a y o)(ry:RelV y u)(rd:RelV d r)(h:∀w' s',Inv X pins σ H s'->RelV (o.getD d) w'->Q w' s'):
  wpAny (model X.prog X.w) A (call (.builtin "dict.get") [.ref a,u,r]) Q E s:=by
 rcases g with ⟨kvs,k,e,ey,l⟩|⟨kvs,k,b,e,ey,eb,l⟩
 ·subst ey;obtain⟨z,hd,vs,rel,dd⟩:=SJ I.hok e;refine call_meetsIn F.slot_dict_get dd.typeIs F.entry_dict_get (F.args_dict_get_3 _ _ _) (meets_dict_get_default (ZO X.prog X.w) a (SG ry) hd r) ⟨_,dd.mapOf,h _ _ (I.tok _) ?_⟩;rw[l];exact(rel.val k).getD rd
 ·subst ey;cases (show u=Value.ref b from ry);obtain⟨z,hd,xs,rel,dd⟩:=RS I.hok e;refine call_meetsIn F.slot_dict_get dd.typeIs F.entry_dict_get (F.args_dict_get_3 _ _ _) (meetsH_dict_get_default (tupleKind (ZO X.prog X.w)) a b hd r) ⟨tupleKind_room_in1 hu,k,xs,Su I.hok eb,dd,h _ _ (I.tok _) ?_⟩;rw[l];exact(rel.val k).getD rd
end
def tDGet2(td ty tx:TE):TE:=λσ H Q=>td σ H λx H1=>∃a,x= .ref a/\IsD H1 a/\ty σ H1 λy H2=>tx σ H2 λz H3=>∃o,DGet H3 a y o/\Q (o.getD z) H3
def tDPop1(td ty:TE):TE:=λσ H Q=>td σ H λx H1=>∃a,x= .ref a/\IsD H1 a/\ty σ H1 λy H2=>∃kvs k v,H2 a=some (.dK kvs)/\y=kV k/\valV kvs k=some v/\Q v (upd H2 a (.dK (YI kvs k)))
section
variable {X:Cx}{o e f:Expr}{apos cpos:Pos}{td ty tx:TE}
theorem pe_dget2(hu:X.A.units+1<cLine)(ho:PE X o td)(he:PE X e ty)(hf:PE X f tx)(m:M2 X o "get" apos e f cpos):PE X (.Call (.Attribute o "get" apos) [e,f] [] cpos) (tDGet2 td ty tx):=by
 intro pins s σ H Q I h;refine wpAny_Call_method m.base m.few m.line F.plainAttrs_dict F.slot_dict_get F.type_dict_get (thn (ho pins s σ H _ I h) λu s1 ⟨x,H1,I1,rx,a,ex,d,q1⟩=>?_);subst ex;obtain rfl:u=Value.ref a:=rx;obtain⟨t1,t2,_⟩:=isD_at I1 d;refine⟨t1,t2,?_⟩;rw[m.trees];refine Calls.callWith_builtin rfl (Calls.evalArgs_plain (Calls.spliced_cons (thn (he pins s1 σ H1 _ I1 q1) λiv s2 ⟨y,H2,I2,ry,q2⟩=>
  Calls.spliced_cons (thn (hf pins s2 σ H2 _ I2 q2) λfv s3 ⟨z,H3,I3,rz,ov,g,q3⟩=>Calls.spliced_nil ?_))))
 exact d_get2 hu I3 g ry rz λw' s4 I4 rw'=>⟨_,H3,I4,rw',q3⟩
theorem YT(ho:PE X o td)(he:PE X e ty)(m:M1 X o "pop" apos e cpos):PE X (.Call (.Attribute o "pop" apos) [e] [] cpos) (tDPop1 td ty):=by
 intro pins s σ H Q I h;refine wpAny_Call_method m.base m.few m.line F.plainAttrs_dict F.slot_dict_pop F.type_dict_pop (thn (ho pins s σ H _ I h) λu s1 ⟨x,H1,I1,rx,a,ex,d,q1⟩=>?_);subst ex;obtain rfl:u=Value.ref a:=rx;obtain⟨t1,t2,_⟩:=isD_at I1 d;refine⟨t1,t2,?_⟩;rw[m.trees];refine Calls.callWith_builtin rfl (Calls.evalArgs_plain (Calls.spliced_cons (thn (he pins s1 σ H1 _ I1 q1) λiv s2 ⟨y,H2,I2,ry,kvs,k,v,ea,ey,l,q2⟩=>Calls.spliced_nil ?_)));subst ey;exact d_pop I2 ea ry l (.inl rfl) λw' s3 I3 rw'=>⟨v,_,I3,rw',q2⟩
end
section
variable {X:Cx}{pins:List (Addr×Obj)}{σ:St}{H:Hp}{s:Shared}{a:Addr}{kvs:List (Key×V)}{A:Around}{E:Value->Shared->Prop}
end
section
variable {X:Cx}{pins:List (Addr×Obj)}{σ:St}{H:Hp}{s:Shared}{a:Addr}{y:V}{u:Value}{A:Around}{E:Value->Shared->Prop}
end
end L2
namespace HT
open PySem PyProof.Rows
noncomputable def lexLt:List Int->List Int->Bool
 |[],[]=>false
 |[],_::_=>true
 |_::_,[]=>false
 |x::xs,y::ys=>if x=y then lexLt xs ys else decide (x<y)
theorem lexLt_cons(x y:Int)(xs ys:List Int):lexLt (x::xs) (y::ys)=if x=y then lexLt xs ys else decide (x<y):=rfl
theorem Qf:lexLt [] []=false:=rfl
theorem RK(y:Int)(ys:List Int):lexLt [] (y::ys)=true:=rfl
theorem RL(x:Int)(xs:List Int):lexLt (x::xs) []=false:=rfl
theorem eqAt_int(A:Around)(s:Shared)(a:Int)(t:Tok)(c:Int)(u:Tok):∃e,SeqAt.EqAt A s (.int a t) (.int c u) e/\(e=true↔a=c):=
 ⟨(a==c),SeqAt.EqAt.int_int a t c u,by simp⟩
theorem rcLt_int(A:Around)(s:Shared)(a:Int)(t:Tok)(c:Int)(u:Tok)(prog:Program)(w:World)(E:Value->Shared->Prop)(Q:Value->Shared->Prop)(h:Q (.bool (decide (a<c))) s):
  wpAny (model prog w) A (richCompare .Lt (.int a t) (.int c u)) Q E s:=
 (PyProof.Rows.lt_int h:wpAny (model prog w) A (compareOp .Lt (.int a t) (.int c u)) Q E s)
section
open PySem.SeqAt
open PySem.AutoSeq1 (wpAny_loadPart')
open PySem.MeetsSeq PySem.MeetsSeq2 PySem.MeetsSeq3
theorem RX(l b:Addr)(items items2:Array Value)(n n2:Nat)(dd dd2:Option Addr)(sl sl2:Array (Option Value))(ns ms:List Int)(hi:IntsAre items.toList ns)(hj:IntsAre items2.toList ms):
  Meets (Builtin.«tuple.__lt__» ⟨[.ref l,.ref b],[]⟩)
   (λ_ R s=>s.heap.get? l=some {cls:=.type "tuple",dict:=dd,data:=.seq items n,slots:=sl}/\s.heap.get? b=some {cls:=.type "tuple",dict:=dd2,data:=.seq items2 n2,slots:=sl2}/\
    R (.ok (.ret (.bool (lexLt ns ms)))) s):=
 .of_wp λprog w A R s h=>by
  obtain⟨hp,g,d,tk,os⟩:=s;obtain⟨hl,hb,h⟩:=h;have f2:=AutoSeq1.sub_tuple_tuple;have z1:items.size=ns.length:=by rw[←hi.length];simp
  have z2:items2.size=ms.length:=by rw[←hj.length];simp
  wp_walk using wpAny_loadPart' hl,wpAny_loadPart' hb,wpAny_forIn_list _ (λrest b s'=>b.1=none/\s'=⟨hp,g,d,tk,os⟩/\∃(vs ws:List Value) (ns' ms':List Int),rest=vs.zip ws/\
   IntsAre vs ns'/\IntsAre ws ms'/\ns'.length+items2.size=ms'.length+items.size/\R (.ok (.ret (.bool (lexLt ns' ms')))) ⟨hp,g,d,tk,os⟩) _
  case turn=>
   rintro⟨y,x⟩ rest b s' ⟨hb',rfl,vs,ws,ns',ms',hz,hvi,hwi,hlen,hR⟩;cases hvi with
   |nil=>rw[List.zip_nil_left] at hz;cases hz
   |cons a t hvi'=>
    cases hwi with
    |nil=>rw[List.zip_nil_right] at hz;cases hz
    |cons c u hwi'=>
     rw[List.zip_cons_cons] at hz;injection hz with hyx hrest
     injection hyx with hy hx
     subst hy hx;rw[lexLt_cons] at hR;simp only[List.length_cons] at hlen;obtain⟨e,he,hiff⟩:=eqAt_int A.in1 ⟨hp,g,d,tk,os⟩ a t c u;refine wpAny_bind (he prog w _ _ ?_);cases e with
     |true=>
      rw[if_pos (hiff.mp rfl)] at hR
      wp_walk
      exact⟨rfl,rfl,_,_,_,_,hrest,hvi',hwi',by omega,hR⟩
     |false=>
      rw[if_neg (λq=>absurd (hiff.mpr q) Bool.false_ne_true)] at hR;have hri:=rcLt_int A.in1 ⟨hp,g,d,tk,os⟩ a t c u prog w
      wp_walk using hri
      exact⟨_,rfl,by simpa using hR⟩
  case fin=>
   rintro⟨b1,b2⟩ s' ⟨hb',rfl,vs,ws,ns',ms',hz,hvi,hwi,hlen,hR⟩;simp only at hb';subst hb';have hv:lexLt ns' ms'=decide (items.size<items2.size):=by
    cases hvi with
    |nil=>
     cases hwi with
     |nil=>
      simp only[List.length_nil] at hlen;rw[Qf];exact(decide_eq_false (by omega)).symm
     |cons c u hw=>
      simp only[List.length_nil,List.length_cons] at hlen;rw[RK];exact(decide_eq_true (by omega)).symm
    |cons a t hv=>
     cases hwi with
     |nil=>
      simp only[List.length_nil,List.length_cons] at hlen;rw[RL];exact(decide_eq_false (by omega)).symm
     |cons c u hw=>
      rw[List.zip_cons_cons] at hz;cases hz
   rw[hv] at hR
   wp_walk
   exact⟨_,rfl,by simpa[Builtin.Tuple.tupleCompareSizes] using hR⟩
  case h=>
   exact⟨rfl,rfl,items.toList,items2.toList,ns,ms,rfl,hi,hj,by omega,h⟩
end
section
variable {prog:Program}{w:World}{A:Around}{E:Value->Shared->Prop}{s:Shared}
theorem lt_tupInts{l b:Addr}{items items2:Array Value}{ns ms:List Int}{Q:Value->Shared->Prop}(hl:IsTup s.heap l items)(hb:IsTup s.heap b items2)(hi:IntsAre items.toList ns)(hj:IntsAre items2.toList ms)
 (hu:A.units<cLine)(h:Q (.bool (lexLt ns ms)) s):wpAny (model prog w) A (compareOp .Lt (.ref l) (.ref b)) Q E s:=by
 obtain⟨⟨cls,dd,data,sl⟩,ho,hc,n,hd⟩:=id hl;obtain⟨⟨cls2,dd2,data2,sl2⟩,ho2,hc2,n2,hd2⟩:=id hb;simp only at hc hd hc2 hd2;subst hc hd hc2 hd2;exact richCompare_meets_room (op:=.Lt) ⟨_,ho,rfl⟩ ⟨_,ho2,rfl⟩ F.slot_tuple_lt F.entry_tuple_lt (F.args_tuple_lt_2 _ _) (RX l b items items2 n n2 dd dd2 sl sl2 ns ms hi hj)
  ⟨ho,ho2,show Value.bool (lexLt ns ms)≠Value.notImplemented/\Q (.bool (lexLt ns ms)) s from ⟨(λx=>nomatch x),h⟩⟩ hu
end
end HT
namespace L2
open PySem PySem.Spec PyProof.Rows
theorem To{ns:List Int}:∀{us:List Value},Vals (ns.map V.int) us->IntsAre us ns:=by
 induction ns with
 |nil=>intro us r;rw[List.map_nil] at r;cases r;exact .nil
 |cons n ns ih=>
  intro us r;rw[List.map_cons] at r;cases r with
  |cons r1 r2=>
   obtain⟨t,e⟩:=r1;subst e;exact .cons n t (ih r2)
section
variable {X:Cx}{e:Expr}{te:TE}{lo hi:Option Expr}{tl th:TO}{pos p2:Pos}
end
end L2
namespace L2
open PySem PySem.Spec PyProof.Rows
noncomputable def ixN(n:Nat)(i:Int):Option Nat:=if 0<=i then (if i<n then some i.toNat else none) else if-(n:Int)<=i then some (i+n).toNat else none
noncomputable def atI{α:Type}(xs:List α)(i:Int):Option α:=(ixN xs.length i).bind λj=>xs[j]?
theorem ixN_seq{n:Nat}{i:Int}{j:Nat}(h:ixN n i=some j):seqIndex? i n=some j/\j<n/\ -(n:Int)<=i/\i<n:=by
 unfold ixN at h;by_cases h0:0<=i
 ·rw[if_pos h0] at h;by_cases h1:i<n
  ·rw[if_pos h1] at h;have e:i.toNat=j:=Option.some.inj h;exact⟨by rw[seqIndex_of h0 h1,e],by omega,by omega,h1⟩
  ·rw[if_neg h1] at h;cases h
 ·rw[if_neg h0] at h;by_cases h1: -(n:Int)<=i
  ·rw[if_pos h1] at h;have e:(i+n).toNat=j:=Option.some.inj h;exact⟨by rw[seqIndex_neg (by omega) h1,e],by omega,h1,by omega⟩
  ·rw[if_neg h1] at h;cases h
theorem atI_get{α:Type}{xs:List α}{i:Int}{v:α}(h:atI xs i=some v):∃j,seqIndex? i xs.length=some j/\xs[j]?=some v/\j<xs.length/\ -(xs.length:Int)<=i/\i<xs.length:=by
 unfold atI at h;cases e:ixN xs.length i with
 |none=>rw[e] at h;cases h
 |some j=>
  rw[e] at h;obtain⟨h1,h2,h3,h4⟩:=ixN_seq e;exact⟨j,h1,h,h2,h3,h4⟩
theorem atI_nat{α:Type}{xs:List α}{j:Nat}{v:α}(h:xs[j]?=some v):atI xs (j:Int)=some v:=by
 have hj:j<xs.length:=(List.getElem?_eq_some_iff.mp h).1;have e:ixN xs.length (j:Int)=some j:=by
  unfold ixN;rw[if_pos (by omega),if_pos (by omega)];simp
 unfold atI;rw[e];exact h
def PlainIx(b:Expr):Prop:=∀o i,subscripted b false o i=operate [o,i] (getItem o i)
def IxR(X:Cx)(r:R2):Prop:=
 ∀(value slice:Expr) (pins:List (Addr×Obj)) (s:Shared) (σ:St) (H:Hp) (x y:V) (v u:Value) (Q:VK),Inv X pins σ H s->RelV x v->RelV y u->r x y H Q->
  subscripted slice false v u=operate [v,u] (getItem v u)->wpAny (model X.prog X.w) X.A (subscriptTail value slice v u) (EP X pins σ Q) X.xe s
def MtR(X:Cx)(id:String)(r:V->List V->Hp->VK->Prop):Prop:=
 ∀(pins:List (Addr×Obj)) (s:Shared) (σ:St) (H:Hp) (x:V) (xs:List V) (v:Value) (us:List Value) (Q:VK),Inv X pins σ H s->RelV x v->Vals xs us->r x xs H Q->
  wpAny (model X.prog X.w) X.A (call (.builtin id) (v::us)) (EP X pins σ Q) X.xe s
section
variable {X:Cx}{a b:Expr}{ta tb:TE}{pos:Pos}
theorem ZC{r:R2}(hr:IxR X r)(ha:PE X a ta)(hb:PE X b tb)(hs:PlainIx b):PE X (.Subscript a b pos) (tOp r ta tb):=by
 intro pins s σ H Q I h;exact Subscript_ (binT ha hb I h λv u s2 x y H2 I2 rx ry q=>hr a b pins s2 σ H2 x y v u Q I2 rx ry q (hs _ _))
def rIxL(K:W.Frag):R2:=λx y H Q=>∃p xs i v,x= .ref p/\y= .int i/\SqL K H p xs/\atI xs i=some v/\Q v H
def rIxT(K:W.Frag):R2:=λx y H Q=>∃p xs i v,x= .ref p/\y= .int i/\SqT K H p xs/\atI xs i=some v/\Q v H
theorem Ye:IxR X (rIxL X.K):=by
 intro value slice pins s σ H x y v u Q I rx ry h hs;obtain⟨p,xs,i,z,rfl,rfl,hq,he,q⟩:=h;cases rx;obtain⟨t,rfl⟩:=ry;obtain⟨its,r,pl,hz⟩:=I.list hq;obtain⟨j,h1,h2,h3,h4,h5⟩:=atI_get he;obtain⟨w,ew,rw'⟩:=r.get h2;have hl:=r.length;have hn:=Pz;have fin:EP X pins σ Q w s:=⟨z,H,I,rw',q⟩;by_cases h0:0<=i
 ·have hj:i.toNat=j:=by
   rw[seqIndex_of h0 h5] at h1;exact Option.some.inj h1
  exact item_listR pl.isList h0 (by omega) (by rw[hj];simpa using ew) fin hs
 ·have hj:(i+(its.toArray.size:Int)).toNat=j:=by
   rw[seqIndex_neg (by omega) h4] at h1;rw[List.size_toArray,←hl];exact Option.some.inj h1
  exact subscriptTail_builtinR (x:=w) pl.isList.typeIs slot_list_getitem.lookup
   (wpAny_getItem_list_neg (Q:=λr s'=>r=w/\EP X pins σ Q r s') pl.isList (by omega) (by rw[List.size_toArray]<;>omega) (by omega) (by rw[hj];simpa using ew) ⟨rfl,fin⟩) hs
theorem ZE:IxR X (rIxT X.K):=by
 intro value slice pins s σ H x y v u Q I rx ry h hs;obtain⟨p,xs,i,z,rfl,rfl,hq,he,q⟩:=h;cases rx;obtain⟨t,rfl⟩:=ry;obtain⟨its,r,pl,hz⟩:=I.tuple hq;obtain⟨j,h1,h2,h3,h4,h5⟩:=atI_get he;obtain⟨w,ew,rw'⟩:=r.get h2;have hl:=r.length;have hn:=Pz;have fin:EP X pins σ Q w s:=⟨z,H,I,rw',q⟩;exact subscriptTail_builtinR (x:=w) pl.typeIs slot_tuple_getitem.lookup
  (getItem_tuple (j:=j) (Q:=λr s'=>r=w/\EP X pins σ Q r s') pl (by omega) (by omega) (by rw[List.size_toArray,←hl];exact h1) (by simpa using ew) ⟨rfl,fin⟩) hs
theorem Vm:VB X (.builtin "len") (λxs H Q=>∃p ys,xs=[.ref p]/\(SqL X.K H p ys\/SqT X.K H p ys)/\Q (.int ys.length) H):=by
 intro pins s σ H xs us Q I r h;obtain⟨p,ys,rfl,hq,q⟩:=h;obtain⟨u,rfl,rx⟩:=VQ r;cases rx;have hn:=Pz;rcases hq with hq|hq
 ·obtain⟨its,r',pl,hz⟩:=I.list hq;have hlen:=r'.length;exact Calls.call_len_list pl.isList (by simp only[List.size_toArray]<;>omega) ⟨.int ys.length,H,I.tok _,⟨s.toks+1,by rw[List.size_toArray,hlen]⟩,q⟩
 ·obtain⟨its,r',pl,hz⟩:=I.tuple hq;have hlen:=r'.length;exact len_tuple pl (by simp only[List.size_toArray]<;>omega) ⟨.int ys.length,H,I.tok _,⟨s.toks+1,by rw[List.size_toArray,hlen]⟩,q⟩
theorem PH:VB X (.type "list") (λxs H Q=>∃p ys,xs=[.ref p]/\(SqL X.K H p ys\/SqT X.K H p ys)/\∀l,H l=none->Q (.ref l) (upd H l (.lst ys))):=by
 intro pins s σ H xs us Q I r h;obtain⟨p,ys,rfl,hq,q⟩:=h;obtain⟨u,rfl,rx⟩:=VQ r;cases rx;have fin:∀(its:List Value),Vals ys its->ys.length<=sizeLine->∀(h':Heap) (c':Nat),(∀b o',s.heap.get? b=some o'->h'.get? b=some o')->
   h'.get? s.heap.objs.size=some {cls:=.type "list",dict:=none,data:=.seq its.toArray c',slots:= #[]}->EP X pins σ Q (.ref s.heap.objs.size) {s with heap:=h'}:=λits r' hz h' c' kp e=>
  ⟨.ref s.heap.objs.size,_,I.laid (t':=s.toks) kp (Nat.le_refl _) (show ObjOk X.prog X.w _ h' _ (.lst ys) from ⟨hz,its,c',r',e⟩),rfl,q _ (I.hok.fresh (Nat.le_refl _))⟩
 rcases hq with hq|hq
 ·obtain⟨its,r',pl,hz⟩:=I.list hq;have hlen:=r'.length;obtain⟨o,ho,hc,n,hd⟩:=pl.isList;exact call_list_seq p (.inl rfl) ho hc hd (λh' c' kp e=>fin its r' hz h' c' kp e) (by simp only[List.size_toArray]<;>omega)
 ·obtain⟨its,r',pl,hz⟩:=I.tuple hq;have hlen:=r'.length;obtain⟨o,ho,hc,n,hd⟩:=pl;exact call_list_seq p (.inr rfl) ho hc hd (λh' c' kp e=>fin its r' hz h' c' kp e) (by simp only[List.size_toArray]<;>omega)
theorem Qh:VB X (.type "tuple") (λxs H Q=>∃p ys,xs=[.ref p]/\((SqL X.K H p ys/\∀l,H l=none->Q (.ref l) (upd H l (.tup ys)))\/(SqT X.K H p ys/\Q (.ref p) H))):=by
 intro pins s σ H xs us Q I r h;obtain⟨p,ys,rfl,h⟩:=h;obtain⟨u,rfl,rx⟩:=VQ r;cases rx;rcases h with ⟨hq,q⟩|⟨hq,q⟩
 ·obtain⟨its,r',pl,hz⟩:=I.list hq;have hlen:=r'.length;refine call_tuple_list pl.isList (λh' kp=>?_) (by simp only[List.size_toArray]<;>omega);have I1:Inv X pins σ H {s with heap:=h'}:=I.kept (t':=s.toks) kp;have I2:Inv X pins σ (upd H h'.objs.size (.tup ys)) {s with heap:=h'.push {cls:=.type "tuple",data:=.seq its.toArray}}:=
   I1.laid (t':=s.toks) (λb o e=>Heap.get?_push_of_some _ e) (Nat.le_refl _) (show ObjOk X.prog X.w _ _ _ (.tup ys) from ⟨hz,its,r',IsTup.new _ _⟩)
  exact⟨.ref h'.objs.size,_,I2,rfl,q _ (I1.hok.fresh (Nat.le_refl _))⟩
 ·obtain⟨its,r',pl,hz⟩:=I.tuple hq;exact call_tuple_same pl ⟨.ref p,H,I,rfl,q⟩
def tyV(K:W.Frag)(T:String)(x:V)(H:Hp):Prop:=match x with
 | .str _=>T="str"
 | .int _=>T="int"
 | .ref p=>(T="list"/\∃xs,SqL K H p xs)\/(T="tuple"/\∃o,K.lookup p=some o/\o.cls= .type "tuple"/\o.dict=none)\/
   (T="dict"/\((∃kvs,H p=some (.dK kvs))\/∃kvs,H p=some (.dT kvs)))\/(T="set"/\∃S n,H p=some (.set S n))
 |_=>False
theorem tyV_is{pins:List (Addr×Obj)}{σ:St}{H:Hp}{s:Shared}{T:String}{x:V}{v:Value}(I:Inv X pins σ H s)(r:RelV x v)(ty:tyV X.K T x H):
  s.TypeIs v T/\∀a,v= .ref a->∃ob,s.heap.get? a=some ob/\ob.dict=none:=by
 cases x with
 |str z=>
  obtain⟨t,rfl⟩:=r;cases (show T="str" from ty);exact⟨typeIs_str s z t,λ_ e=>nomatch e⟩
 |int i=>
  obtain⟨t,rfl⟩:=r;cases (show T="int" from ty);exact⟨typeIs_int s i t,λ_ e=>nomatch e⟩
 |ref p=>
  cases r;rcases ty with ⟨rfl,xs,hq⟩|⟨rfl,o,hk,hc,hd⟩|⟨rfl,hk⟩|⟨rfl,S,n,hk⟩
  ·obtain⟨its,_,pl,_⟩:=I.list hq;refine⟨pl.isList.typeIs,λa e=>?_⟩;cases e;obtain⟨o,n,e,c,hd,_⟩:=pl;exact⟨o,e,hd⟩
  ·refine⟨⟨o,I.kIn p o hk,hc⟩,λa e=>?_⟩;cases e;exact⟨o,I.kIn _ o hk,hd⟩
  ·have z:∃o,s.heap.get? p=some o/\o.ExactDict:=by
    rcases hk with ⟨kvs,hk⟩|⟨kvs,hk⟩
    ·obtain⟨_,_,_,_,o,_,_,e,ex,_⟩:=I.hok p _ hk;exact⟨o,e,ex⟩
    ·obtain⟨_,_,_,_,o,_,_,e,ex,_⟩:=I.hok p _ hk;exact⟨o,e,ex⟩
   obtain⟨o,e,ex⟩:=z;refine⟨⟨o,e,ex.1⟩,λa e2=>?_⟩;cases e2;exact⟨o,e,ex.2.1⟩
  ·obtain⟨o,_,_,_,e,ex,_⟩:=I.hok p _ hk;refine⟨⟨o,e,ex.1⟩,λa e2=>?_⟩;cases e2;exact⟨o,e,ex.2.1⟩
 |_=>exact False.elim ty
def tBM0(K:W.Frag)(T:String)(r:V->List V->Hp->VK->Prop)(to:TE):TE:=λσ H Q=>to σ H λx H1=>tyV K T x H1/\r x [] H1 Q
def tBM(K:W.Frag)(T:String)(r:V->List V->Hp->VK->Prop)(to:TE)(t:TA):TE:=λσ H Q=>to σ H λx H1=>tyV K T x H1/\t σ H1 λxs H2=>r x xs H2 Q
variable {o e:Expr}{es:List Expr}{to:TE}{t:TA}{name:Str}{apos cpos:Pos}{T id:String}{r:V->List V->Hp->VK->Prop}
theorem pe_bm0(pa:PlainAttrs T)(slot:Slot T name id)(hty:typeOf (.builtin id)=pure (.type "method_descriptor"))(hm:MtR X id r)(ho:PE X o to)
 (hbase:attributeBase o name X.env (eval o X.env)=eval o X.env:=by rfl)(hline:(apos.endLine==cpos.line)=true:=by rfl):PE X (.Call (.Attribute o name apos) [] [] cpos) (tBM0 X.K T r to):=by
 intro pins s σ H Q I h;refine wpAny_Call_method0_late hbase hline (thn (ho pins s σ H _ I h) λv s1 ⟨x,H1,I1,r1,ty,q1⟩=>?_);obtain⟨h1,h2⟩:=tyV_is I1 r1 ty;exact⟨T,id,pa,slot,hty,h1,h2,Calls.callWith_builtin rfl (PySem.evalArgs_none (hm pins s1 σ H1 x [] v [] Q I1 r1 .nil q1))⟩
theorem VW(pa:PlainAttrs T)(slot:Slot T name id)(hty:typeOf (.builtin id)=pure (.type "method_descriptor"))(hm:MtR X id r)(ho:PE X o to)(ha:PA X (e::es) t)
 (hbase:attributeBase o name X.env (eval o X.env)=eval o X.env:=by rfl)
 (hfew:((backTo cpos (starEach (e::es) X.env)).all (λx=> !x.1)&&(backToKw cpos (keywordEach [] X.env)).all (λx=>x.1.isSome)
   &&decide ((e::es).length+([]:List Keyword).length+(if ([]:List Keyword).isEmpty then 0 else 1)<30))=true:=by rfl)
 (hline:(apos.endLine==cpos.line)=true:=by rfl)(hs:starEach (e::es) X.env=(false,eval e X.env)::starEach es X.env:=by rfl)(hplain:(backTo cpos (starEach es X.env)).any (·.1)=false:=by rfl):
  PE X (.Call (.Attribute o name apos) (e::es) [] cpos) (tBM X.K T r to t):=by
 intro pins s σ H Q I h;refine wpAny_Call_method_late hbase hfew hline rfl (thn (ho pins s σ H _ I h) λv s1 ⟨x,H1,I1,r1,ty,q1⟩=>?_);obtain⟨h1,h2⟩:=tyV_is I1 r1 ty;refine⟨T,id,pa,slot,hty,h1,h2,?_⟩;have hA:=ha cpos pins s1 σ H1 _ I1 q1;rw[hs] at hA ⊢;refine Calls.callWith_builtin (by show (false||(backTo cpos (starEach es X.env)).any (·.1))=false;rw[hplain]<;>rfl) (Calls.evalArgs_plain ?_);exact thn hA λus s2 ⟨vs,H2,I2,r2,q2⟩=>hm pins s2 σ H2 x vs v us Q I2 r1 r2 q2
end
end L2
namespace L2
open PySem PySem.Spec PyProof.Rows
def MtM(X:Cx)(id:String)(r:V->List V->Hp->VK->Prop):Prop:=
 ∀(pins:List (Addr×Obj)) (s:Shared) (σ:St) (H:Hp) (x:V) (xs:List V) (v:Value) (us:List Value) (Q:VK),Inv X pins σ H s->RelV x v->Vals xs us->r x xs H Q->
  wpAny (model X.prog X.w) X.A (call (.builtin id) (v::us)) (EP X pins σ Q) X.xe s
theorem Vals.one:∀{x:V} {us:List Value},Vals [x] us->∃u,us=[u]/\RelV x u
 |_,_,.cons r .nil=>⟨_,rfl,r⟩
theorem Vals.two:∀{x y:V} {us:List Value},Vals [x,y] us->∃u v,us=[u,v]/\RelV x u/\RelV y v
 |_,_,_,.cons r (.cons q .nil)=>⟨_,_,rfl,r,q⟩
theorem Vals.eraseIdx:∀{xs:List V} {us:List Value} (i:Nat),Vals xs us->Vals (xs.eraseIdx i) (us.eraseIdx i)
 |_,_,_,.nil=>.nil
 |_,_,0,.cons _ t=>t
 |_,_,i+1,.cons r t=>.cons r (Vals.eraseIdx i t)
theorem QA{α:Type}:∀(l:List α) (i:Nat),(l.eraseIdx i).length<=l.length
 |[],_=>Nat.le_refl _
 |_::_,0=>Nat.le_succ _
 |_::r,i+1=>Nat.succ_le_succ (QA r i)
section
variable {X:Cx}{pins:List (Addr×Obj)}{σ:St}{H:Hp}{s:Shared}{l b:Addr}{xs ys zs:List V}
theorem Inv.lset{its its':List Value}{n:Nat}{f:Array Value->Array Value}{t':Nat}(I:Inv X pins σ H s)(hH:H l=some (.lst xs))
 (e:s.heap.get? l=some {cls:=.type "list",data:=.seq its.toArray n})(hf:f its.toArray=its'.toArray)(hv:Vals ys its')(hz:ys.length<=sizeLine):
  Inv X pins σ (upd H l (.lst ys)) {s with heap:=s.heap.update l (Obj.mapSeq f),toks:=t'}:=by
 have q:=PySem.IsL.update e f;rw[hf] at q;refine I.write (x:=l) (e:=l) (by rw[hH];exact trivial) (.inl rfl) (λb' u hb hu=>(Heap.get?_update_other s.heap (Obj.mapSeq f) (Ne.symm hb)).trans hu) ⟨_,q⟩ ?_;exact⟨hz,its',_,hv,q⟩
theorem Inv.lnew{its:List Value}{t':Nat}(I:Inv X pins σ H s)(hv:Vals ys its)(hz:ys.length<=sizeLine):
  Inv X pins σ (upd H s.heap.objs.size (.lst ys)) {s with heap:=s.heap.push {cls:=.type "list",data:=.seq its.toArray},toks:=t'}:=
 I.laid (λ_ _ q=>Heap.get?_push_of_some _ q) (Nat.le_refl _) ⟨hz,its,0,hv,Heap.get?_push_size _ rfl⟩
theorem Inv.fresh(I:Inv X pins σ H s):H s.heap.objs.size=none:=I.hok.fresh (Nat.le_refl _)
theorem Inv.lstM(I:Inv X pins σ H s)(hH:H l=some (.lst xs)):xs.length<=sizeLine/\∃(its:List Value) (n:Nat),Vals xs its/\xs.length=its.length/\s.heap.get? l=some {cls:=.type "list",data:=.seq its.toArray n}:=by
 obtain⟨z,its,n,r,e⟩:=I.hok l _ hH;exact⟨z,its,n,r,r.length,e⟩
theorem notLongL{n:Nat}(h:n<=sizeLine):Builtin.List.listTooLong n=false:=by
 unfold Builtin.List.listTooLong;exact decide_eq_false (by omega)
end
section
variable {X:Cx}
def rAppend:V->List V->Hp->VK->Prop:=λx vs H Q=>∃l xs y,x= .ref l/\vs=[y]/\H l=some (.lst xs)/\xs.length<sizeLine/\Q .non (upd H l (.lst (xs++[y])))
theorem Ua:MtM X "list.append" rAppend:=by
 intro pins s σ H x vs v us Q I rx rv h;obtain⟨l,xs,y,rfl,rfl,hH,hz,q⟩:=h;cases rx;obtain⟨u,rfl,ru⟩:=rv.one;obtain⟨z,its,n,r,hl,e⟩:=I.lstM hH;refine call_meets F.slot_list_append ⟨_,e,rfl⟩ F.entry_list_append (F.args_list_append_2 _ _) (PySem.list_append l its.toArray n u (by rw[List.size_toArray];omega)) ⟨e,?_⟩;refine⟨.non,_,I.lset (its':=its++[u]) hH e (by simp) (r.append (.cons ru .nil)) ?_,rfl,q⟩;rw[List.length_append,List.length_singleton];omega
def rExtend:V->List V->Hp->VK->Prop:=λx vs H Q=>∃l b xs zs,x= .ref l/\vs=[.ref b]/\H l=some (.lst xs)/\H b=some (.lst zs)/\xs.length+zs.length<=sizeLine/\Q .non (upd H l (.lst (xs++zs)))
theorem Qu:MtM X "list.extend" rExtend:=by
 intro pins s σ H x vs v us Q I rx rv h;obtain⟨l,b,xs,zs,rfl,rfl,hH,hB,hz,q⟩:=h;cases rx;obtain⟨u,rfl,ru⟩:=rv.one;cases ru;obtain⟨z,its,n,r,hl,e⟩:=I.lstM hH;obtain⟨z2,its2,n2,r2,hl2,e2⟩:=I.lstM hB;have hsz:its.toArray.size+its2.toArray.size<=sizeLine:=by rw[List.size_toArray,List.size_toArray];omega
 have hlong: ¬(!its.toArray.isEmpty&&Builtin.List.listTooLong (its.toArray.size+its2.toArray.size))=true:=by
  rw[notLongL hsz,Bool.and_false];exact Bool.false_ne_true
 refine call_meets F.slot_list_extend ⟨_,e,rfl⟩ F.entry_list_extend (F.args_list_extend_2 _ _)
  (AutoSeq1.list_extend_list_list_0 l its.toArray n b its2.toArray n2 hlong (by rw[List.size_toArray];omega) (by omega)) ⟨e,e2,?_⟩
 refine⟨.non,_,I.lset (its':=its++its2) hH e (by simp) (r.append r2) ?_,rfl,q⟩;rw[List.length_append];omega
def rPopAt:V->List V->Hp->VK->Prop:=λx vs H Q=>∃l xs i k y,x= .ref l/\vs=[.int i]/\H l=some (.lst xs)/\ -(2 ^ 63)<=i/\i<2 ^ 63/\seqIndex? i xs.length=some k/\xs[k]?=some y/\Q y (upd H l (.lst (xs.eraseIdx k)))
theorem mt_popAt:MtM X "list.pop" rPopAt:=by
 intro pins s σ H x vs v us Q I rx rv h;obtain⟨l,xs,i,k,y,rfl,rfl,hH,h1,h2,hk,hy,q⟩:=h;cases rx;obtain⟨u,rfl,ru⟩:=rv.one;obtain⟨t,rfl⟩:=ru;obtain⟨z,its,n,r,hl,e⟩:=I.lstM hH;obtain⟨w,hw,rw'⟩:=r.get hy;refine call_meets F.slot_list_pop ⟨_,e,rfl⟩ F.entry_list_pop (F.args_list_pop_2 _ _)
  (MeetsSeq.list_pop_at l its.toArray n i t k w (fitsIndex_both h1 h2) (by rw[List.size_toArray,←hl];exact hk) (by rw[←Array.getElem?_toList];exact hw) (by rw[List.size_toArray];omega)) ⟨e,?_⟩
 refine⟨y,_,I.lset (its':=its.eraseIdx k) hH e ?_ (r.eraseIdx k) ?_,rw',q⟩
 ·show its.toArray.eraseIdxIfInBounds k=(its.eraseIdx k).toArray;rw[List.eraseIdxIfInBounds_toArray]
 ·have:=QA xs k;omega
def rCat:R2:=λx y H Q=>∃l b xs zs,x= .ref l/\y= .ref b/\H l=some (.lst xs)/\H b=some (.lst zs)/\xs.length+zs.length<=sizeLine/\∀p,H p=none->Q (.ref p) (upd H p (.lst (xs++zs)))
theorem op_cat:OpR X (binaryOp .Add) rCat:=by
 intro pins s σ H x y v u Q I rx ry h;obtain⟨l,b,xs,zs,rfl,rfl,hH,hB,hz,q⟩:=h;cases rx;cases ry;obtain⟨z,its,n,r,hl,e⟩:=I.lstM hH;obtain⟨z2,its2,n2,r2,hl2,e2⟩:=I.lstM hB;refine PySem.P.add_list e e2 ?_ (by rw[List.size_toArray,List.size_toArray];omega);have ea:its.toArray++its2.toArray=(its++its2).toArray:=by simp
 rw[ea];exact⟨.ref _,_,I.lnew (t':=s.toks) (r.append r2) (by rw[List.length_append];omega),rfl,q _ I.fresh⟩
end
section
variable {prog:Program}{w:World}{A:Around}{E:Value->Shared->Prop}{s:Shared}
end
section
variable {X:Cx}
end
end L2
namespace Att
open PySem PySem.W PySem.Calls PyProof.Rows
theorem SV{P:Params}{h:Heap}:∀(ns:List Int) (vs:List Value),WellAll P h vs (ns.map WData.int)->IntsAre vs ns:=by
 intro ns;induction ns with
 |nil=>
  intro vs w;rw[List.map_nil] at w;cases w;exact .nil
 |cons n ns ih=>
  intro vs w;rw[List.map_cons] at w;cases w with
  |cons a b=>
   cases a;exact .cons _ _ (ih _ b)
theorem script_of{l:OpenLaw}{n:Nat}(hn:l.most=some n){P:Params}{h:Heap}{args:List WData}{vals:List Value}
 (hpre:l.row.toRowW.claim.pre args=true)(hwl:WellAll P h vals args):
  ∃a vs ns,vals=[Value.ref a]/\args=[WData.list (ns.map WData.int)]/\h.get? a=some {cls:=.type "list",data:=.seq vs.toArray}/\IntsAre vs ns/\ns.length<=n:=by
 have hsh:WShape.hasAll [] args [.list .int]=true:=(pre_splitW hpre).1;have hc:l.pre.holds [] {args:=args}=true:=(pre_splitW hpre).2;obtain⟨d,r,rfl,h1,h2⟩:=hasAllW_cons hsh;obtain rfl:=hasAllW_nil h2;obtain⟨xs,rfl,h3⟩:=hasW_list h1;obtain⟨ns,rfl⟩:=items_int h3;have hlen:ns.length<=n:=by
  unfold OpenLaw.pre at hc;have h4:(WTm.not (.lt (.lit (.int (n:Int))) (.len (.arg 0)))).holds [] {args:=[.list (ns.map .int)]}=true:=by
   have h4:=(holds_andW hc).1;rw[hn] at h4;exact h4
  have h5:=condW_of h4 (w_not (w_lt w_lit (w_len_list (w_arg rfl))));rw[List.length_map] at h5;refine Nat.le_of_not_lt λq=>?_;have q':(n:Int)<((ns.length:Nat):Int):=by omega
  first
   |(rw[decide_eq_true q'] at h5;exact absurd h5 (by decide))
   |(simp at h5;omega)
 cases hwl with
 |cons w1 w2=>
  cases w2;cases w1 with
  |list ho hall=>exact⟨_,_,ns,rfl,rfl,ho,SV ns _ hall,hlen⟩
theorem post_true(l:OpenLaw)(args:List WData):l.row.toRowW.claim.post args (.bool true) args=true:=
 postW_of (r:=l.row.toRowW) (X:=(true==true))
  (show WShape.has [] (.bool true) .bool=true by first|rfl|decide|simp[WShape.has,WShape.arms,WShape.armsAll])
  (show (WTm.eq .res (.lit (.bool true))).value [] {args:=args,res:=some (.bool true),after:=args}=some (.bool (true==true)) from w_eq_bool (w_res rfl) w_lit) rfl
theorem attach_call{l:OpenLaw}{n:Nat}{q:Program}{loose:List Str}{XP:(Str->Option Value)->Heap->Prop}{YP:World->Heap->Prop}{d:DefRec}
 (hn:l.most=some n)(hdf:d.params.defaults=[])
 (call:∀(w:World) (s₀ s₁:Shared) (mg mb:Str->Option Value) (fa:Addr) (o:Obj) (pm cd doc:Value) (a:Addr) (vs:List Value) (ns:List Int),
   Ground q loose [] XP w s₀ mg mb s₁.heap->YP w s₁.heap->
   s₁.heap.get? fa=some o->o.data= .func (docDef d.name d.params d.body d.scope pm cd doc)->s₁.heap.CodeRec cd d.name->mg d.name=some (.ref fa)->
   s₁.heap.get? a=some {cls:=.type "list",data:=.seq vs.toArray}->IntsAre vs ns->ns.length<=n->s₁.gens= #[]->
   codeAny (model l.prog w) callerA (.call (.ref fa) ⟨[.ref a],[]⟩) (λr s'=>r= .ok (.ret (.bool true))/\OldK s₁.heap s'.heap/\s'.os=s₁.os/\AllBare s'.gens) s₁):
  WalkO q loose XP YP l.row.toRowW d [] (λf vs=>PySem.call f vs):=by
 intro w s₀ s₁ mg mb G Y fa o pm cd doc dV kV ho hd hcd hD hmg hg args vals as hpre hlay hrd hwl hlo;obtain rfl:dV= .none:=Dflts.none hD hdf;obtain rfl:kV= .none:=Dflts.noKw hD;obtain⟨a,vs,ns,rfl,rfl,hobj,hints,hlen⟩:=script_of hn hpre hwl;refine enter_call (codeAny_mono (call w s₀ s₁ mg mb fa o pm cd doc a vs ns G Y ho (fd_plain hd) hcd hmg hobj hints hlen hg) λr s' hq=>?_);obtain⟨rfl,h2,h3,h4⟩:=hq;exact⟨.inl ⟨.bool true,.bool true,[],rfl,λ_=>rfl,.bool true,post_true l _,λ_=>⟨List.Pairwise.nil,λ_ hm=>(nomatch hm)⟩⟩,h2,h3,h4⟩
section
variable {prog:Program}{w:World}{A:Around}{E:Value->Shared->Prop}{s:Shared}{K:Frag}
end
end Att
namespace L2
open PySem PySem.Spec PyProof.Rows
theorem Sb:∀{vs:List Value} {ns:List Int},IntsAre vs ns->Vals (ns.map V.int) vs
 |_,_,.nil=>.nil
 |_,_,.cons n t h=>.cons ⟨t,rfl⟩ (Sb h)
def Only(H:Hp):Prop:=∀b,H b=none\/∃o xs,H b=some (.frz o (.lst xs))
theorem law_call{P:Program}{w:World}{K:W.Frag}{mg mb:Str->Option Value}{CX:CXT}{k:Nat}{fa a:Addr}{fd:FuncData}{x:Str}{sp:Sp}{s₁:Shared}{vs:List Value}{ns:List Int}
 (KX:K.In s₁.heap)(hns:s₁.heap.Ns mainGlobals mg)(hb:s₁.heap.Ns builtinsNs mb)(hbb:∀x:Str,x≠"__name__"->mb x=bootBuiltins x)(hlim:s₁.heap.NoLimit)(hg:s₁.gens= #[])
 (ha:s₁.heap.get? a=some {cls:=.type "list",data:=.seq vs.toArray})(hi:IntsAre vs ns)(hl:ns.length<=sizeLine)(hr:Room k callerA)
 (F:∀base:Heap,K.In base->base.Ns mainGlobals mg->FnOk P w K mg base CX k fa fd [x] sp)(hbind:∀(s:Shared) (u:Value),BindsTo s fd ⟨[u],[]⟩ [(x,u)])
 (hsp:∀H:Hp,Only H->SqL K H a (ns.map V.int)->sp [.ref a] H (λv _=>v= .bl true) λ_ _ _=>False)
 (hCX:∀H e s',CX [] H s₁ (λ_ _ _=>False) e s'->False):
  codeAny (model P w) callerA (.call (.ref fa) ⟨[.ref a],[]⟩) (λr s'=>r= .ok (.ret (.bool true))/\OldK s₁.heap s'.heap/\s'.os=s₁.os/\AllBare s'.gens) s₁:=by
 have rv:=Sb hi;have lenV:=hi.length;have core:∀H:Hp,Only H->SqL K H a (ns.map V.int)->HOk P w H s₁.heap->(∀b,H b≠none->b=a)->(H a≠none->K.lookup a=none)->
   codeAny (model P w) callerA (.call (.ref fa) ⟨[.ref a],[]⟩) (λr s'=>r= .ok (.ret (.bool true))/\OldK s₁.heap s'.heap/\s'.os=s₁.os/\AllBare s'.gens) s₁:=by
  intro H hO hS hok hA hK;have base_of:∀{b:Addr} {o:Obj},s₁.heap.get? b=some o->H b=none->(hidT s₁.heap H).get? b=some o:=λe n=>hidT_get e n;have noA:∀{b:Addr} {o:Obj} {es:Array DictEntry} {ep:Nat},s₁.heap.get? b=some o->o.data= .dict es ep->H b=none:=λ{b o es ep} e d=>by
   cases q:H b with
   |none=>rfl
   |some u=>
    have e':b=a:=hA b (by rw[q];simp);subst e';rw[ha] at e;cases e;have d':Data.seq vs.toArray _=Data.dict es ep:=d;cases d'
  have nsK:∀{b:Addr} {m:Str->Option Value},s₁.heap.Ns b m->(hidT s₁.heap H).Ns b m:=λ{b m} ⟨o,es,ep,e,d,r⟩=>⟨o,es,ep,base_of e (noA e d),d,r⟩;have hKb:K.In (hidT s₁.heap H):=λb o e=>base_of (KX b o e) (by
   cases q:H b with
   |none=>rfl
   |some u=>
    have e':b=a:=hA b (by rw[q];simp);subst e';rw[hK (by rw[q];simp)] at e;cases e)
  have hM:Mod K mg (hidT s₁.heap H):=⟨hKb,nsK hns,⟨mb,nsK hb,hbb⟩,let ⟨mc,h1,h2⟩:=hlim;⟨mc,nsK h1,h2⟩⟩;have e0:Env0 P w K mg (hidT s₁.heap H) callerA [] s₁ H:=⟨rfl,hM,λb o e=>of_hidT e,Nat.le_of_eq (hidT_size _ _),trivial,λb hb=>absurd (show b∈([]:List Addr) from hb) (by simp),hok,.of_eq hg⟩;refine codeAny_mono ((F _ hKb (nsK hns)).run callerA [] s₁ H ⟨[.ref a],[]⟩ [.ref a] [.ref a] _ _ hr e0 (hbind s₁ (.ref a)) (.cons rfl .nil) (hsp H hO hS)) λr s' h=>?_;cases r with
  |error e=>exact(hCX H e s' h).elim
  |ok fl=>
   cases fl with
   |next=>exact False.elim h
   |brk=>exact False.elim h
   |cont=>exact False.elim h
   |ret u=>
    obtain⟨v,H',os,bare,un,hok',r',q⟩:=h;have q':v= .bl true:=q;subst q';obtain rfl:u=Value.bool true:=r';refine⟨rfl,OldK.of_keep λb o e=>?_,os,bare⟩;cases q:H b with
    |none=>exact un.keep b o e q (by intro z;exact absurd (show b∈([]:List Addr) from z) (by simp)) (by simp)
    |some u=>
     rcases hO b with z|⟨ob,xs,z⟩
     ·rw[q] at z;cases z
     ·have z2:=un.frzs b ob _ z;obtain⟨e1,_⟩:=hok b _ z;obtain⟨e2,_⟩:=hok' b _ z2;rw[e] at e1;cases e1;exact e2
 cases hk:K.lookup a with
 |some o=>
  have e:=KX a o hk;rw[ha] at e;cases e;refine core (λ_=>none) (λ_=>.inl rfl) (.inr ⟨_,vs.toArray,_,hk,rfl,rfl,rfl,by rw[List.size_toArray,lenV];exact hl,by simpa using rv⟩) (λb u z=>by have z':(none:Option HO)=some u:=z;cases z') (λb z=>absurd rfl z) λz=>absurd rfl z
 |none=>
  refine core (λb=>if b=a then some (.frz {cls:=.type "list",data:=.seq vs.toArray} (.lst (ns.map V.int))) else none) (λb=>?_) (.inl (.inr ⟨{cls:=.type "list",data:=.seq vs.toArray},if_pos rfl⟩)) (λb u z=>?_) (λb z=>?_) λ_=>hk
  ·by_cases hb:b=a
   ·exact .inr ⟨_,_,if_pos hb⟩
   ·exact .inl (if_neg hb)
  ·by_cases hb:b=a
   ·have z':=(if_pos hb).symm.trans z;cases z';subst hb;exact⟨ha,by rw[List.length_map];exact hl,vs,_,rv,ha⟩
   ·have z':=(if_neg hb).symm.trans z;cases z'
  ·by_cases hb:b=a
   ·exact hb
   ·exact absurd (if_neg hb) z
end L2
namespace L2
open PySem PySem.Spec PyProof.Rows
abbrev KOf{K:W.Frag}{h:Heap}(_:K.In h):W.Frag:=K
theorem walk_of{l:W.OpenLaw}{n k:Nat}{q:Program}{loose:List Str}{XP:(Str->Option Value)->Heap->Prop}{YP:World->Heap->Prop}{d:DefRec}{K:Params->W.Frag}{CX:World->CXT}{sp:World->Sp}{x:Str}
 (hn:l.most=some n)(hn2:n<=sizeLine)(hdf:d.params.defaults=[])(hr:Room k callerA)
 (hY:∀(w:World) (h:Heap),YP w h->(K w.params).In h)
 (F:∀(w:World) (mg:Str->Option Value) (fa:Addr) (h:Heap),(K w.params).In h->h.Ns mainGlobals mg->mg d.name=some (.ref fa)->
   ∃fd:FuncData,(∀(s:Shared) (u:Value),BindsTo s fd ⟨[u],[]⟩ [(x,u)])/\
    ∀base:Heap,(K w.params).In base->base.Ns mainGlobals mg->FnOk l.prog w (K w.params) mg base (CX w) k fa fd [x] (sp w))
 (hsp:∀(w:World) (H:Hp) (a:Addr) (ns:List Int),ns.length<=n->Only H->SqL (K w.params) H a (ns.map V.int)->sp w [.ref a] H (λv _=>v= .bl true) λ_ _ _=>False)
 (hCX:∀(w:World) (H:Hp) (s:Shared) (e:Value) (s':Shared),CX w [] H s (λ_ _ _=>False) e s'->False):
  W.WalkO q loose XP YP l.row.toRowW d [] (λf vs=>PySem.call f vs):=by
 refine Att.attach_call hn hdf λw s₀ s₁ mg mb fa o pm cd doc a vs ns G Y ho hd hcd hmg hobj hints hlen hg=>?_;have KX:=hY w _ Y;obtain⟨fd,hb,hF⟩:=F w mg fa _ KX G.T.g hmg;exact law_call KX G.T.g G.T.b G.T.builtins G.T.nolimit hg hobj hints (Nat.le_trans hlen hn2) hr hF hb (λH hO hS=>hsp w H a ns hlen hO hS) λH e s'=>hCX w H s₁ e s'
end L2
namespace L2
open PySem PySem.Spec PyProof.Rows
noncomputable def ZU(s:Stmt)(j:Nat):Stmt:=match s with
 | .ClassDef _ _ _ body _ _ _ _ _ _ _=>body.getD j (.Pass ⟨0,0,0,0⟩)
 |_=>.Pass ⟨0,0,0,0⟩
noncomputable def Zs(s:Stmt):Arguments:=match s with
 | .FunctionDef _ a _ _ _ _ _ _ _ _=>a
 |_=>{posonlyargs:=[],args:=[],vararg:=none,kwonlyargs:=[],kw_defaults:=[],kwarg:=none,defaults:=[]}
noncomputable def Zo(s:Stmt):List Stmt:=match s with
 | .FunctionDef _ _ b _ _ _ _ _ _ _=>b
 |_=>[]
noncomputable def Zd(s:Stmt):Scope:=match s with
 | .FunctionDef _ _ _ _ _ _ sc _ _ _=>sc
 |_=>{kind:=.function,names:=[],isGenerator:=false,isCoroutine:=false}
abbrev E0:XK:=λ_ _ _=>False
structure Fun(K:W.Frag)(x qual:Str)(st:Stmt)(f:Addr)(fd:FuncData):Prop where
 ex:∃(oc:Value) (od:Option Addr) (kV doc pm:Value) (an:Option Addr) (cdv ct:Value) (osl:Array (Option Value)),
  fd=W.fnOf x qual (Zs st) (Zo st) (Zd st) .none kV doc pm an cdv ct/\K.lookup f=some ⟨oc,od,.func fd,osl⟩/\W.codeIn K cdv qual=true
 kp:W.keepIn K (.ref f)=true
section
variable {P:Program}{w:World}{K:W.Frag}{mg:Str->Option Value}{base:Heap}
theorem Fun.binds{x qual:Str}{st:Stmt}{f:Addr}{fd:FuncData}{ps:List Str}(F:Fun K x qual st f fd)
 (h:∀(kV doc pm:Value) (an:Option Addr) (cdv ct:Value) (us:List Value),us.length=ps.length->bindArgs (W.fnOf x qual (Zs st) (Zo st) (Zd st) .none kV doc pm an cdv ct) ⟨us,[]⟩=pure (ps.zip us)):Binds K fd ps []:=by
 obtain⟨oc,od,kV,doc,pm,an,cdv,ct,osl,rfl,lk,hcd⟩:=F.ex;exact .all (h kV doc pm an cdv ct)
theorem Zj{x qual:Str}{st:Stmt}{f:Addr}{oc:Value}{od an:Option Addr}{osl:Array (Option Value)}{kV doc pm cdv ct:Value}(l:K.lookup f=some ⟨oc,od,.func (W.fnOf x qual (Zs st) (Zo st) (Zd st) .none kV doc pm an cdv ct),osl⟩)
 (c:W.codeIn K cdv qual=true)(k:W.keepIn K (.ref f)=true):Fun K x qual st f (W.fnOf x qual (Zs st) (Zo st) (Zd st) .none kV doc pm an cdv ct):=⟨⟨oc,od,kV,doc,pm,an,cdv,ct,osl,rfl,l,c⟩,k⟩
end
theorem YK{A:Around}{k:Nat}(hr:Room k A):A.units+1<cLine:=Nat.lt_of_le_of_lt (Nat.add_le_add_left (by decide:1<=64) _) hr.units
theorem UM{n:Nat}(h:n<=1000):n<sizeLine:=Nat.lt_of_le_of_lt h (by decide)
section
variable {X:Cx}
theorem pv(i:Nat){x:Str}{pos:Pos}(hN:X.N[i]?=some x:=by rfl)(hv:Vis X.env.scope x:=by first|exact Or.inl rfl|exact Or.inr (Or.inl rfl)|exact Or.inr (Or.inr rfl))(hd:(x==("__debug__":Str))=false:=by decide)
 (hcd:(x==("__classdict__":Str))=false:=by decide):PE X (.Name x pos) (tVar i):=pe_var hN hv hd hcd
theorem call_lenD:VB X (.builtin "len") (λxs H Q=>∃a kvs,xs=[V.ref a]/\H a=some (.dK kvs)/\Q (.int kvs.length) H):=by
 intro pins s σ H xs us Q I r h;obtain⟨a,kvs,rfl,ha,q⟩:=h;obtain⟨u,rfl,ru⟩:=VQ r;cases ru;exact d_len I (.inl ha) λt s' I'=>⟨.int kvs.length,H,I',⟨t,rfl⟩,q⟩
end
theorem iteF{A B:Prop}(h:B):if false=true then A else B:=by
 rw[if_neg Bool.false_ne_true];exact h
theorem iteT{A B:Prop}(h:A):if true=true then A else B:=by
 rw[if_pos rfl];exact h
theorem ite2{c A B:Prop}[Decidable c](h1:c->A)(h2: ¬c->B):if c then A else B:=by
 by_cases h:c
 ·rw[if_pos h];exact h1 h
 ·rw[if_neg h];exact h2 h
theorem iteNS{c A B:Prop}[Decidable c](hc:c)(h:B):if (!decide c)=true then A else B:=by
 rw[decide_eq_true hc];exact iteF h
def Same(H H':Hp):Prop:=∀b o,H b=some o->H' b=some o
theorem Same.refl(H:Hp):Same H H:=λ_ _ h=>h
theorem Same.trans{H H1 H2:Hp}(a:Same H H1)(b:Same H1 H2):Same H H2:=λc o h=>b c o (a c o h)
theorem Same.free{H H':Hp}(e:Same H H'){l:Addr}(h:H' l=Option.none):H l=Option.none:=by
 cases q:H l with
 |none=>rfl
 |some o=>
  rw[e l o q] at h;cases h
theorem Same.seq{K:W.Frag}{H H':Hp}{a:Addr}{xs:List V}(e:Same H H')(h:SqL K H a xs):SqL K H' a xs:=by
 rcases h with (h|⟨o,h⟩)|h
 ·exact .inl (.inl (e _ _ h))
 ·exact .inl (.inr ⟨o,e _ _ h⟩)
 ·exact .inr h
section
variable {κ:Type}[DecidableEq κ]
end
end L2
end
section
namespace Mir
structure Al(ν:Type) where
 name:ν
 tick:Int
 step:Option Int
deriving DecidableEq
abbrev Dct(α:Type):=List (Int×α)
section
variable {α:Type}
noncomputable def get(t:Dct α)(n:Int):Option (α):=(t.find? λp=>decide (p.1=n)).map (·.2)
noncomputable def put(t:Dct α)(n:Int)(a:α):Dct α:=if t.any (λp=>decide (p.1=n)) then t.map (λp=>if p.1=n then (p.1,a) else p) else t++[(n,a)]
noncomputable def drop(t:Dct α)(n:Int):Dct α:=t.filter λp=> !decide (p.1=n)
abbrev keys(t:Dct α):List Int:=t.map (·.1)
theorem get_nil(n:Int):get ([]:Dct α) n=none:=rfl
theorem Yb(p:Int×α)(t:Dct α)(n:Int):get (p::t) n=if p.1=n then some p.2 else get t n:=by
 unfold get;rw[List.find?_cons];by_cases h:p.1=n<;>simp[h]
theorem YQ{t:Dct α}{n:Int}{a:α}(h:get t n=some a):(n,a)∈t:=by
 induction t with
 |nil=>cases h
 |cons p t ih=>
  rw[Yb] at h;by_cases e:p.1=n
  ·rw[if_pos e] at h;cases h;subst e;exact List.mem_cons_self
  ·rw[if_neg e] at h;exact List.mem_cons_of_mem _ (ih h)
theorem get_none{t:Dct α}{n:Int}:get t n=none↔n∉keys t:=by
 induction t with
 |nil=>simp[get_nil]
 |cons p t ih=>
  rw[Yb];by_cases e:p.1=n
  ·simp[e]
  ·rw[if_neg e,ih];simp only[keys,List.map_cons,List.mem_cons,not_or];exact⟨λh=>⟨λz=>e z.symm,h⟩,λh=>h.2⟩
theorem VA{t:Dct α}(nd:(keys t).Nodup){n:Int}{a:α}(h:(n,a)∈t):get t n=some a:=by
 induction t with
 |nil=>cases h
 |cons p t ih=>
  rw[Yb];have nd':p.1∉keys t/\(keys t).Nodup:=List.nodup_cons.mp nd;rcases List.mem_cons.mp h with e|h
  ·cases e;rw[if_pos rfl]
  ·have ne: ¬p.1=n:=λe=>nd'.1 (by rw[e];exact List.mem_map.mpr ⟨_,h,rfl⟩);rw[if_neg ne];exact ih nd'.2 h
theorem Rj{t:Dct α}{n:Int}:t.any (λp=>decide (p.1=n))=(get t n).isSome:=by
 induction t with
 |nil=>rfl
 |cons p t ih=>
  rw[List.any_cons,ih,Yb];by_cases e:p.1=n<;>simp[e]
theorem ZD(t:Dct α)(n m:Int)(a:α):get (put t n a) m=if m=n then some a else get t m:=by
 unfold put;rw[Rj];by_cases h:(get t n).isSome=true
 ·rw[if_pos h];induction t with
  |nil=>cases h
  |cons p t ih=>
   rw[List.map_cons,Yb,Yb];rw[Yb] at h;by_cases e:p.1=n
   ·rw[if_pos e];by_cases em:m=n
    ·subst em;simp[e]
    ·have ne: ¬p.1=m:=λz=>em (z▸e);have ne2: ¬n=m:=λz=>em z.symm;simp only[e,em,if_false,ne2];have tail:∀l:Dct α,get (l.map λp=>if p.1=n then (p.1,a) else p) m=get l m:=by
      intro l;induction l with
      |nil=>rfl
      |cons q l il=>
       rw[List.map_cons,Yb,Yb,il];by_cases eq:q.1=n
       ·simp[eq,ne2]
       ·simp[eq]
     simpa[e,ne2] using tail t
   ·rw[if_neg e] at h;simp only[e,if_false];by_cases em:p.1=m
    ·have ne: ¬m=n:=λz=>e (em.trans z);simp[em,ne]
    ·rw[if_neg em,if_neg em];exact ih h
 ·rw[if_neg h];have hn:get t n=none:=by simpa using h
  induction t with
  |nil=>
   show get [(n,a)] m=_;rw[Yb];by_cases em:m=n
   ·simp[em]
   ·have: ¬n=m:=λz=>em z.symm;simp[em,this]
  |cons p t ih=>
   rw[List.cons_append,Yb,Yb];rw[Yb] at hn h;by_cases e:p.1=n
   ·rw[if_pos e] at hn;cases hn
   ·rw[if_neg e] at hn h;by_cases em:p.1=m
    ·have ne: ¬m=n:=λz=>e (em.trans z);simp[em,ne]
    ·rw[if_neg em,if_neg em];exact ih h hn
theorem Zy(t:Dct α)(n m:Int):get (drop t n) m=if m=n then none else get t m:=by
 unfold drop;induction t with
 |nil=>simp[get_nil]
 |cons p t ih=>
  rw[List.filter_cons,Yb];by_cases e:p.1=n
  ·simp only[e,decide_true,Bool.not_true,Bool.false_eq_true,if_false];rw[ih];by_cases em:m=n
   ·simp[em]
   ·have: ¬n=m:=λz=>em z.symm;simp[em,this]
  ·simp only[e,decide_false,Bool.not_false,if_true];rw[Yb,ih];by_cases em:p.1=m
   ·have: ¬m=n:=λz=>e (em.trans z);simp[em,this]
   ·simp[em]
theorem Ul{t:Dct α}{n:Int}(a:α)(h:get t n=none):keys (put t n a)=keys t++[n]:=by
 unfold put;rw[Rj,h];simp[keys]
theorem TM{t:Dct α}{n:Int}(a:α)(h:(get t n).isSome=true):keys (put t n a)=keys t:=by
 unfold put;rw[Rj,if_pos h];simp only[keys,List.map_map];apply List.map_congr_left
 intro p _;by_cases e:p.1=n<;>simp[e]
theorem Ya{t:Dct α}(nd:(keys t).Nodup)(n:Int)(a:α):(keys (put t n a)).Nodup:=by
 by_cases h:(get t n).isSome=true
 ·rw[TM a h];exact nd
 ·have hn:get t n=none:=by simpa using h
  rw[Ul a hn,List.nodup_append];refine⟨nd,by simp,λx hx y hy e=>?_⟩;have ey:y=n:=by simpa using hy
  subst ey;exact get_none.mp hn (e▸hx)
theorem ZL{t:Dct α}(nd:(keys t).Nodup)(n:Int):(keys (drop t n)).Nodup:=nd.sublist (List.Sublist.map _ List.filter_sublist)
end
abbrev Fn(ν:Type):=Int->Option (Al ν)
section
variable {ν:Type}
noncomputable def fput(f:Fn ν)(n:Int)(o:Option (Al ν)):Fn ν:=λm=>if m=n then o else f m
theorem Ym(f:Fn ν)(n:Int)(o:Option (Al ν)):fput f n o n=o:=by simp[fput]
theorem Xi(f:Fn ν){n m:Int}(o:Option (Al ν))(h:m≠n):fput f n o m=f m:=by simp[fput,h]
noncomputable def after(a:Al ν):Option (Al ν):=a.step.map λk=>{a with tick:=a.tick+k}
def Ahead(t n u m:Int):Prop:=t<u\/(t=u/\n<=m)
theorem Ahead.refl(t n:Int):Ahead t n t n:=.inr ⟨rfl,Int.le_refl _⟩
theorem Ahead.antisymm{t n u m:Int}(h:Ahead t n u m)(h':Ahead u m t n):t=u/\n=m:=by
 unfold Ahead at h h';omega
theorem Ahead.total(t n u m:Int):Ahead t n u m\/Ahead u m t n:=by
 unfold Ahead;omega
theorem Ahead.trans{t n u m v k:Int}(h:Ahead t n u m)(h':Ahead u m v k):Ahead t n v k:=by
 unfold Ahead at *;omega
structure Next(goal:Int)(f:Fn ν)(n:Int)(a:Al ν):Prop where
 there:f n=some a
 due:a.tick<=goal
 first:∀m b,f m=some b->Ahead a.tick n b.tick m
theorem Next.unique{goal:Int}{f:Fn ν}{n m:Int}{a b:Al ν}(x:Next goal f n a)(y:Next goal f m b):n=m/\a=b:=by
 obtain⟨_,e⟩:=(x.first m b y.there).antisymm (y.first n a x.there);subst e;have z:=x.there;rw[y.there] at z;cases z;exact⟨rfl,rfl⟩
inductive Runs(goal:Int):Fn ν->List (Int×Int×ν)->Fn ν->Prop where
 |stop {f:Fn ν}:(∀n a,f n=some a->goal<a.tick)->Runs goal f [] f
 |ring {f g:Fn ν} {n:Int} {a:Al ν} {l:List (Int×Int×ν)}:Next goal f n a->Runs goal (fput f n (after a)) l g->Runs goal f ((a.tick,n,a.name)::l) g
theorem Runs.unique{goal:Int}{f:Fn ν}{l l':List (Int×Int×ν)}{g g':Fn ν}(x:Runs goal f l g):Runs goal f l' g'->l=l'/\g=g':=by
 induction x generalizing l' g' with
 |stop h=>
  intro y;cases y with
  |stop _=>exact⟨rfl,rfl⟩
  |ring nx _=>exact absurd nx.due (Int.not_le.mpr (h _ _ nx.there))
 |ring nx r ih=>
  intro y;cases y with
  |stop h=>exact absurd nx.due (Int.not_le.mpr (h _ _ nx.there))
  |ring ny r'=>
   obtain⟨rfl,rfl⟩:=nx.unique ny;obtain⟨rfl,rfl⟩:=ih r';exact⟨rfl,rfl⟩
theorem Runs.append{g1 g2:Int}{f f1 f2:Fn ν}{l1 l2:List (Int×Int×ν)}(x:Runs g1 f l1 f1)(y:Runs g2 f1 l2 f2)(h:g1<=g2):Runs g2 f (l1++l2) f2:=by
 induction x with
 |stop _=>exact y
 |ring nx _ ih=>exact .ring ⟨nx.there,Int.le_trans nx.due h,nx.first⟩ (ih y)
theorem Runs.end{goal:Int}{f g:Fn ν}{l:List (Int×Int×ν)}(x:Runs goal f l g):∀n a,g n=some a->goal<a.tick:=by
 induction x with
 |stop h=>exact h
 |ring _ _ ih=>exact ih
end
section
variable {ν:Type}
noncomputable def cnt(goal:Int)(a:Al ν):Nat:=if a.tick<=goal then (match a.step with |none=>1|some k=>((goal-a.tick)/k+1).toNat) else 0
noncomputable def cntO(goal:Int):Option (Al ν)->Nat
 |none=>0
 |some a=>cnt goal a
theorem Sw{goal:Int}{a:Al ν}(h:a.tick<=goal)(good:∀k,a.step=some k->0<k):cntO goal (after a)+1=cnt goal a:=by
 unfold after;cases hs:a.step with
 |none=>simp[cntO,cnt,h,hs]
 |some k=>
  have hk:=good k hs;simp only[Option.map_some,cntO,cnt,h,hs,if_true];have q0:0<=(goal-a.tick)/k:=Int.ediv_nonneg (by omega) (by omega);by_cases hd:a.tick+k<=goal
  ·rw[if_pos hd];have e:(goal-a.tick)/k=(goal-(a.tick+k))/k+1:=by
    have:goal-a.tick=(goal-(a.tick+k))+1 * k:=by omega
    rw[this,Int.add_mul_ediv_right _ _ (by omega)]
   have q1:0<=(goal-(a.tick+k))/k:=Int.ediv_nonneg (by omega) (by omega);rw[e];omega
  ·rw[if_neg hd];have e:(goal-a.tick)/k=0:=Int.ediv_eq_zero_of_lt (by omega) (by omega);rw[e];rfl
theorem fput_fput(f:Fn ν)(n:Int)(o o':Option (Al ν)):fput (fput f n o) n o'=fput f n o':=by
 funext m;unfold fput;by_cases h:m=n<;>simp[h]
end
end Mir
end
section
namespace L2
open PySem PySem.Spec PyProof.Rows
theorem ObjOk.there{P:Program}{w:World}{H:Hp}{h:Heap}{a:Addr}{o:HO}(x:ObjOk P w H h a o):∃u,h.get? a=some u:=by
 cases o with
 |lst xs=>obtain⟨_,_,_,_,e⟩:=x;exact⟨_,e⟩
 |tup xs=>obtain⟨_,_,_,_,e,_⟩:=x;exact⟨_,e⟩
 |dK kvs=>obtain⟨_,_,_,_,o,_,_,e,_⟩:=x;exact⟨_,e⟩
 |dT kvs=>obtain⟨_,_,_,_,o,_,_,e,_⟩:=x;exact⟨_,e⟩
 |set S n=>obtain⟨o,_,_,_,e,_⟩:=x;exact⟨_,e⟩
 |ins C dx fs=>obtain⟨_,_,_,e,_⟩:=x;exact⟨_,e⟩
 |own y=>obtain⟨_,e⟩:=x;exact⟨_,e⟩
 |xd fs=>obtain⟨_,⟨_,_,_,e,_⟩,_⟩:=x;exact⟨_,e⟩
 |rng lo hi=>obtain⟨_,_,_,e⟩:=x;exact⟨_,e⟩
 |frz ob u=>obtain⟨e,_⟩:=x;exact⟨_,e⟩
 |tbl ps=>exact⟨_,(show h.get? a=some _ from x)⟩
 |met f y=>exact⟨_,(show h.get? a=some _ from x)⟩
 |ext φ=>obtain⟨_,⟨_,e⟩,_⟩:=x;exact⟨_,e⟩
theorem HOk.off{P:Program}{w:World}{H:Hp}{h:Heap}{a:Addr}(x:HOk P w H h)(e:h.get? a=none):H a=none:=by
 cases q:H a with
 |none=>rfl
 |some u=>
  obtain⟨v,z⟩:=(x a u q).there;rw[e] at z;cases z
def Thrown(h:Heap)(ea T:Addr)(cls a0:Value):Prop:=
 ∃oe vs oT ts,h.get? ea=some oe/\(oe.cls=cls/\vs[0]?=some a0)/\oe.data= .fields vs/\vs[1]?=some (.ref T)/\T≠ea/\h.get? T=some oT/\oT.data= .fields ts/\ts[3]?=some .none
theorem Thrown.traced{h base:Heap}{ea T:Addr}{cls a0:Value}(x:Thrown h ea T cls a0)(n:base.get? T=none):h.TracedW base ea cls a0:=
 let ⟨oe,vs,oT,ts,h1,h2,h3,h4,h5,h6⟩:=x;⟨oe,vs,T,oT,ts,h1,h2,h3,h4,n,h5,h6⟩
theorem Qi{h base:Heap}{ea:Addr}{cls a0:Value}(x:h.TracedW base ea cls a0):∃T,base.get? T=none/\Thrown h ea T cls a0:=
 let ⟨oe,vs,T,oT,ts,h1,h2,h3,h4,n,h5,h6⟩:=x;⟨T,n,oe,vs,oT,ts,h1,h2,h3,h4,h5,h6⟩
def FrOk(fs:List Addr)(h:Heap):Prop:=∀b∈fs,∃o,h.get? b=some o/\∀vs,o.data≠.fields vs
theorem FrOk.no{fs:List Addr}{h:Heap}{b:Addr}{o:Obj}{vs:Array Value}(F:FrOk fs h)(e:h.get? b=some o)(d:o.data= .fields vs):b∉fs:=λhb=>by
 obtain⟨o',e',n⟩:=F b hb;rw[e] at e';cases e';exact n vs d
theorem Thrown.offT{fs:List Addr}{h:Heap}{ea T:Addr}{cls a0:Value}(x:Thrown h ea T cls a0)(F:FrOk fs h):T∉fs:=by
 obtain⟨oe,vs,oT,ts,h1,h2,h3,h4,h5,h6,h7,_⟩:=x;exact F.no h6 h7
theorem FrOk.up{fs:List Addr}{h h':Heap}(F:FrOk fs h)(u:h.UpToSlots h'):FrOk fs h':=λb hb=>by
 obtain⟨o,e,n⟩:=F b hb;obtain⟨sl,e'⟩:=u b o e n;exact⟨_,e',n⟩
theorem FrOk.keeps{fs:List Addr}{h h':Heap}(F:FrOk fs h)(k:∀b o,h.get? b=some o->h'.get? b=some o):FrOk fs h':=λb hb=>by
 obtain⟨o,e,n⟩:=F b hb;exact⟨o,k b o e,n⟩
theorem Inv.frOk{X:Cx}{pins:List (Addr×Obj)}{σ:St}{H:Hp}{s:Shared}(I:Inv X pins σ H s):FrOk (frs X.stack) s.heap:=λb hb=>(I.stack.mem hb).2
structure Flung(P:Program)(w:World)(fs:List Addr)(H H':Hp)(h h':Heap)(ea T:Addr)(cls a0:Value):Prop where
 un:Un fs [] H H' h h'
 hok:HOk P w H' h'
 ne:h.get? ea=none
 nT:h.get? T=none
 fe:H' ea=none
 fT:H' T=none
 thr:Thrown h' ea T cls a0
section
variable {X:Cx}{pins:List (Addr×Obj)}{σ:St}{H H':Hp}{s s':Shared}{h h1 h2:Heap}{ea T:Addr}{cls a0:Value}{vs:List Value}{fs:List Addr}{P:Program}{w:World}
theorem flung_made(I:Inv X pins σ H s)(hx:Heap.MadeExcOf s.heap h1 ea cls vs)(st:(W.hideAll s.heap (frs X.stack)).StaysIn h2)(up:h1.UpToSlots h2)
 (tr:h2.TracedW (W.hideAll s.heap (frs X.stack)) ea cls a0):∃T,Flung X.prog X.w (frs X.stack) H H s.heap h2 ea T cls a0:=by
 obtain⟨T,nT,th⟩:=Qi tr;have fr2:FrOk (frs X.stack) h2:=(I.frOk.keeps hx.keeps).up up;have keep:∀b o,s.heap.get? b=some o->b∉frs X.stack->h2.get? b=some o:=λb o e n=>st b o (W.hideAll_get _ e n);have slot:∀b o,s.heap.get? b=some o->b∈frs X.stack->∃sl,h2.get? b=some {o with slots:=sl}:=λb o e hb=>by
  obtain⟨o',e',n⟩:=I.frOk b hb;rw[e] at e';cases e';exact up b o (hx.keeps b o e) n
 have nT':s.heap.get? T=none:=by
  cases q:s.heap.get? T with
  |none=>rfl
  |some o=>
   rw[W.hideAll_get _ q (th.offT fr2)] at nT;cases nT
 refine⟨T,⟨λb o e _ hb _=>keep b o e hb,λb o e _ hb _=>slot b o e hb,λb o e n _=>n,λb o e _=>?_,λb xs q=>q,λb o u q=>q,λb ps q=>⟨#[],by rw[q];simp⟩⟩,λa o e=>?_,hx.new,nT',I.hok.off hx.new,I.hok.off nT',th⟩
 ·by_cases hb:b∈frs X.stack
  ·obtain⟨sl,q⟩:=slot b o e hb;exact⟨_,q⟩
  ·exact⟨o,keep b o e hb⟩
 ·refine(I.hok a o e).stay (λb u hb q=>keep b u q λm=>?_) (λ_ q=>q) λ_ _ q=>q;have z:=I.stkFree b m;rcases hb with hb|hb
  ·rw[hb,e] at z;cases z
  ·rw[hb] at z;cases z
theorem RP(F:Flung P w fs H H' h h1 ea T cls a0)(fr:FrOk fs h1)(ff:∀b∈fs,H' b=none)(st:(W.hideAll h1 (ea::T::fs)).StaysIn h2)(up:h1.UpToSlots h2)
 (tr:h2.TracedW (W.hideAll h1 (ea::T::fs)) ea cls a0):∃T',Flung P w fs H H' h h2 ea T' cls a0:=by
 obtain⟨T',nT',th⟩:=Qi tr;have fr2:FrOk fs h2:=fr.up up;have keep:∀b o,h1.get? b=some o->b≠ea->b≠T->b∉fs->h2.get? b=some o:=λb o e n1 n2 n3=>st b o (W.hideAll_get _ e λm=>by
  rcases List.mem_cons.mp m with z|m
  ·exact n1 z
  ·rcases List.mem_cons.mp m with z|m
   ·exact n2 z
   ·exact n3 m)
 have nE:∀b o,h.get? b=some o->b≠ea:=λb o e z=>by rw[z,F.ne] at e;cases e
 have nTT:∀b o,h.get? b=some o->b≠T:=λb o e z=>by rw[z,F.nT] at e;cases e
 have slot:∀b o,h1.get? b=some o->b∈fs->∃sl,h2.get? b=some {o with slots:=sl}:=λb o e hb=>by
  obtain⟨o',e',n⟩:=fr b hb;rw[e] at e';cases e';exact up b o e n
 have old:∀o,h1.get? T'=some o->T'=T:=λo e=>by
  apply Classical.byContradiction
  intro n;have ne:T'≠ea:=by
   obtain⟨_,_,_,_,_,_,_,_,h5,_⟩:=th;exact h5
  rw[W.hideAll_get _ e (λm=>by
   rcases List.mem_cons.mp m with z|m
   ·exact ne z
   ·rcases List.mem_cons.mp m with z|m
    ·exact n z
    ·exact th.offT fr2 m)] at nT'
  cases nT'
 refine⟨T',⟨λb o e n hb hx=>keep b o (F.un.keep b o e n hb hx) (nE b o e) (nTT b o e) hb,λb o e n hb hx=>?_,F.un.free,λb o e hx=>?_,F.un.tups,F.un.frzs,F.un.tbls⟩,λa o e=>?_,F.ne,?_,F.fe,?_,th⟩
 ·obtain⟨sl,e1⟩:=F.un.slot b o e n hb hx;obtain⟨sl',e2⟩:=slot b _ e1 hb;exact⟨sl',e2⟩
 ·obtain⟨o',e1⟩:=F.un.there b o e hx;by_cases hb:b∈fs
  ·obtain⟨sl,q⟩:=slot b o' e1 hb;exact⟨_,q⟩
  ·exact⟨o',keep b o' e1 (nE b o e) (nTT b o e) hb⟩
 ·have off:∀b,H' b≠none->b≠ea/\b≠T/\b∉fs:=λb n=>⟨λz=>n (by rw[z];exact F.fe),λz=>n (by rw[z];exact F.fT),λz=>n (ff b z)⟩;refine(F.hok a o e).stay (λb u hb q=>?_) (λ_ q=>q) λ_ _ q=>q;have nb:H' b≠none:=by
   rcases hb with hb|hb
   ·rw[hb,e];intro z;cases z
   ·rw[hb];intro z;cases z
  exact keep b u q (off b nb).1 (off b nb).2.1 (off b nb).2.2
 ·cases q:h.get? T' with
  |none=>rfl
  |some o=>
   obtain⟨o',e1⟩:=F.un.there T' o q (by simp);have z:=old o' e1;rw[z,F.nT] at q;cases q
 ·cases q:H' T' with
  |none=>rfl
  |some u=>
   obtain⟨o',e1⟩:=(F.hok T' u q).there;have z:=old o' e1;rw[z,F.fT] at q;cases q
theorem Inv.flung(I:Inv X pins σ H s)(F:Flung X.prog X.w (frs X.stack) H H' s.heap s'.heap ea T cls a0)(ho:s'.os=s.os)(hb:AllBare s'.gens):Inv X pins σ H' s':=
 I.call' ho F.un F.hok hb λb z=>absurd z (by simp)
def CXe(P:Program)(w:World):CXT:=λouter H s E e s'=>
 ∃ea T cls a0 H',e= .ref ea/\s'.os=s.os/\AllBare s'.gens/\Flung P w (frs outer) H H' s.heap s'.heap ea T cls a0/\E cls none H'
theorem CXe.no{outer:List Env}{e:Value}(h:CXe P w outer H s E0 e s'):False:=by
 obtain⟨_,_,_,_,_,_,_,_,_,q⟩:=h;exact q
theorem Inv.hid(I:Inv X pins σ H s){as:List Addr}(hs:∀b∈frs X.stack,b∈as):s.heap.FunFrames (W.hideAll s.heap as) X.stack:=
 W.funFrames_hide I.stack λenv he a ha=>hs a (List.mem_filterMap.mpr ⟨env,he,ha⟩)
theorem leave_flung{M:Model}{A:Around}{Q:Unit->Shared->Prop}{E':Value->Shared->Prop}(I:Inv X pins σ H s)(hst:X.stack=X.env::X.outer)(hfr:X.env.frame=some X.env.locals)(ho:s'.os=s.os)(hb:AllBare s'.gens)
 (F:Flung X.prog X.w (frs X.stack) H H' s.heap s'.heap ea T cls a0)(hA:A.frames=some X.stack)
 (k:∀h2 T',Flung X.prog X.w (frs X.stack) H H' s.heap h2 ea T' cls a0->Q () {s' with heap:=h2}):wpAny M A (leaving X.env (.ref ea)) Q E' s':=by
 have J:=I.flung F ho hb;refine wpAny_leaves_onW (base:=W.hideAll s'.heap (ea::T::frs X.stack)) (L:=X.env.locals) (by rw[hA,hst]) hfr ⟨λb o e=>W.of_hideAll _ e,W.hideAll_none _ (List.mem_cons_self),?_,F.thr.traced (W.hideAll_none _ (by simp))⟩ λh2 fl up=>?_
 ·rw[←hst];exact J.hid λb m=>List.mem_cons_of_mem _ (List.mem_cons_of_mem _ m)
 ·obtain⟨a1,a2,a3,a4⟩:=fl;obtain⟨T',F'⟩:=RP F J.frOk J.stkFree a1 up a4;exact k h2 T' F'
theorem leave_made{M:Model}{A:Around}{Q:Unit->Shared->Prop}{E':Value->Shared->Prop}{tk:Nat}(I:Inv X pins σ H s)(hst:X.stack=X.env::X.outer)(hfr:X.env.frame=some X.env.locals)
 (hx:Heap.MadeExcOf s.heap h1 ea cls vs)(hA:A.frames=some X.stack)
 (k:∀h2 T' a0,Flung X.prog X.w (frs X.stack) H H s.heap h2 ea T' cls a0->Q () {s with heap:=h2,toks:=tk}):wpAny M A (leaving X.env (.ref ea)) Q E' {s with heap:=h1,toks:=tk}:=by
 refine wpAny_leaves_madeW (base:=W.hideAll s.heap (frs X.stack)) (h:=s.heap) (L:=X.env.locals) (by rw[hA,hst]) hfr (λb o e=>W.of_hideAll _ e) ?_ hx λh2 t fl tup nt up=>?_
 ·rw[←hst];exact I.hid λb m=>m
 ·obtain⟨a1,a2,a3,a4⟩:=fl;obtain⟨T',F'⟩:=flung_made I hx a1 up a4;exact k h2 T' _ F'
theorem cxe_of{E:XK}(I:Inv X pins σ H s)(hex:X.ex=[])(ho:s'.os=s.os)(hb:AllBare s'.gens)(F:Flung X.prog X.w (frs X.stack) H H' s.heap s'.heap ea T cls a0)(hE:E cls none H'):
  CXe X.prog X.w X.outer X.H₀ X.s₀ E (.ref ea) s':=by
 have J:=I.flung F ho hb;have new:∀b,s.heap.get? b=none->X.s₀.heap.get? b=none:=λb e=>by
  cases q:X.s₀.heap.get? b with
  |none=>rfl
  |some o=>
   obtain⟨o',e'⟩:=I.base.there b o q (by rw[hex];simp);rw[e] at e';cases e'
 have u:=J.base;rw[hex] at u;exact⟨ea,T,cls,a0,H',rfl,J.os,J.bare,⟨u,J.hok,new ea F.ne,new T F.nT,F.fe,F.fT,F.thr⟩,hE⟩
end
section
variable {P:Program}{w:World}{K:W.Frag}{mg:Str->Option Value}{base:Heap}{N:List Str}{qual:Str}{scope:Scope}{f:Addr}{cd:Value}{A:Around}{outer:List Env}{s:Shared}{H:Hp}{E:XK}
theorem Uv:UJ (CXe P w) (cxOf (CXe P w) P w K mg base N qual scope f cd A outer s H E) E:=by
 intro pins σ H1 s1 e s' I c;obtain⟨ea,T,cls,a0,H',rfl,ho,hb,F,hE⟩:=c;exact leave_flung (E':=λe' s''=>CXe P w outer H s E e' s'') I rfl rfl ho hb F I.ok.frames λh2 T' F'=>cxe_of (s':={s' with heap:=h2}) I rfl ho hb F' hE
theorem ZB{X:Cx}:UJ (CXe P w) X E0:=λ_ _ _ _ _ _ _ h=>(CXe.no h).elim
end
def Rz(X:Cx)(E:XK):Prop:=∀(pins:List (Addr×Obj)) (σ:St) (H:Hp) (s:Shared) (h1:Heap) (ea:Addr) (cls:Value) (vs:List Value) (tk:Nat),Inv X pins σ H s->Heap.MadeExcOf s.heap h1 ea cls vs->E cls none H->X.xe (.ref ea) {s with heap:=h1,toks:=tk}
theorem Sy{P:Program}{w:World}{K:W.Frag}{mg:Str->Option Value}{base:Heap}{N:List Str}{qual:Str}{scope:Scope}{f:Addr}{cd:Value}{A:Around}{outer:List Env}{s:Shared}{H:Hp}{E:XK}:
  Rz (cxOf (CXe P w) P w K mg base N qual scope f cd A outer s H E) E:=by
 intro pins σ H1 s1 h1 ea cls vs tk I hx hE;exact leave_made (E':=λe' s''=>CXe P w outer H s E e' s'') I rfl rfl hx I.ok.frames λh2 T' a0 F'=>cxe_of (s':={s1 with heap:=h2,toks:=tk}) I rfl rfl I.bare F' hE
noncomputable def bmV:List Value:=[.type "ValueError",.type "Exception",.type "BaseException",.type "object"]
theorem exc_obj{K:W.Frag}{h:Heap}{C:Addr}{bmB:List Value}{newId:String}(x:K.In h)(q:W.excIn K C bmB newId=true):
  ∃bm N nm qn bs hdct sn sub ab col dd k0 k1 k2 k3 k5 mN,h.get? C=some (excClassObj nm qn C N bs bm hdct sn sub ab col dd k0 k1 k2 k3 k5 newId)/\h.Ns N mN/\mN "__init__"=none/\OwnTail h bmB bm:=by
 unfold W.excIn at q;split at q
 ·rename_i dd cd sl look
  split at q
  ·rename_i C' tl y0 y1 y2 y3 nn y5 em es
   simp only[Bool.and_eq_true,beq_iff_eq,Bool.not_eq_true'] at q;obtain⟨⟨⟨⟨⟨rfl,rfl⟩,nodel⟩,tail⟩,okn⟩,noinit⟩:=q;obtain⟨nm,bs,mro,ns,qn,hdct,sn,sub,ab,col,del⟩:=cd;dsimp only at em nodel okn noinit;subst em nodel;have slots:sl= #[y0,y1,y2,y3,some (.builtin nn),y5]:=by
    obtain⟨l⟩:=sl;simp only at es;rw[es]
   subst slots;exact⟨tl,ns,nm,qn,bs,hdct,sn,sub,ab,col,dd,y0,y1,y2,y3,y5,_,x _ _ look,.of_isNs (W.isNs_of_in x okn),W.nsMap_none_of_in x okn noinit,W.tail_of_in x tail⟩
  ·cases q
 ·cases q
def tRaise(E:XK)(C:Addr)(t:TA):TS:=λ_ σ H=>t σ H λvs H1=>vs.length<=sizeLine/\E (.ref C) none H1
theorem Ve{X:Cx}{E:XK}{x:Str}{C:Addr}{np cpos pos:Pos}{e:Expr}{es:List Expr}{t:TA}(hz:Rz X E)(hc:X.calm=true)(hg:Gl X x)(hm:X.mg x=some (.ref C))(hq:W.excIn X.K C bmV "ValueError.__new__"=true)
 (ha:PA X (e::es) t)(hdb:(x==("__debug__":Str))=false:=by decide)(he:starEach (e::es) X.env=(false,eval e X.env)::starEach es X.env:=by rfl)(hpl:(backTo cpos (starEach es X.env)).any (·.1)=false:=by rfl):
  PS X (.Raise (some (.Call (.Name x np) (e::es) [] cpos)) none pos) (tRaise E C t):=by
 intro pins s σ H D I h;have O:=λ(hp:Heap) (k:X.K.In hp)=>exc_obj k hq;obtain⟨tl,N,nm,q,bs,hdct,sn,sub,ab,col,dd,k0,k1,k2,k3,k5,mN,hC,hN,hni,T⟩:=O X.base I.ok.mod.kin;refine wpAny_Raise_call_subT (C:=C) (nm:=nm) (q:=q) (N:=N) (bs:=bs) (bm:=tl) (hdct:=hdct) (sn:=sn) (sub:=sub) (ab:=ab) (col:=col) (dd:=dd) (k0:=k0) (k1:=k1) (k2:=k2) (k3:=k3) (k5:=k5) (mN:=mN)
  F.excBase_ValueError (T.hasType F.excBase_ValueError.hasBase) (I.ok.hd hc) (by rw[he];show (false||(backTo cpos (starEach es X.env)).any (·.1))=false;rw[hpl];rfl) hni (US I hg hm ⟨rfl,?_⟩ hdb)
 have ha':=ha cpos pins s σ H _ I h;rw[he] at ha' ⊢;refine Calls.evalArgs_plain (thn ha' λus s1 ⟨vs,H1,I1,r,hl,hE⟩=>⟨rfl,?_,I1.bk _ _ hC,hN.keeps I1.bk,T.keeps I1.bk,λh' ea hmade=>?_⟩)
 ·show us.length<=sizeLine;rw[←r.length];exact hl
 ·exact hz pins σ H1 s1 h' ea _ _ s1.toks I1 hmade hE
section
variable {P:Program}{w:World}{K:W.Frag}{mg:Str->Option Value}{base:Heap}
theorem Fun.okE{x qual:Str}{st:Stmt}{f:Addr}{fd:FuncData}{N ps:List Str}{k:Nat}{sp:Sp}(F:Fun K x qual st f fd)(S:FnScope N ps (Zd st))(len:∀vs H Q E,sp vs H Q E->vs.length=ps.length)
 (hbody:∀(cdv:Value) (A:Around) (outer:List Env) (s:Shared) (H:Hp) (vs:List V) (Q:VK) (E:XK),Room k (A.deeper (envOfC qual (Zd st) s.heap.objs.size f cdv))->sp vs H Q E->
   ∃t,PSs (cxOf (CXe P w) P w K mg base N qual (Zd st) f cdv A outer s H E) (Zo st) t/\t {nx:=λ_ H'=>Q .non H',rt:=Q} (start N vs) H):FnOk P w K mg base (CXe P w) (k+1) f fd ps sp:=by
 obtain⟨oc,od,kV,doc,pm,an,cdv,ct,osl,rfl,lk,hcd⟩:=F.ex;refine fn_of lk hcd S len λA outer s H vs Q E hr hsp=>?_;exact hbody cdv A outer s H vs Q E hr hsp
theorem Fun.okN{x qual:Str}{st:Stmt}{f:Addr}{fd:FuncData}{N ps:List Str}{k:Nat}{sp:Sp}(F:Fun K x qual st f fd)(S:FnScope N ps (Zd st))(len:∀vs H Q E,sp vs H Q E->vs.length=ps.length)
 (hbody:∀(cdv:Value) (A:Around) (outer:List Env) (s:Shared) (H:Hp) (vs:List V) (Q:VK) (E:XK),Room k (A.deeper (envOfC qual (Zd st) s.heap.objs.size f cdv))->sp vs H Q E->
   ∃t,PSs (cxOf (CXe P w) P w K mg base N qual (Zd st) f cdv A outer s H E).nox (Zo st) t/\t {nx:=λ_ H'=>Q .non H',rt:=Q} (start N vs) H):FnOk P w K mg base (CXe P w) (k+1) f fd ps sp:=
 F.okE S len λcdv A outer s H vs Q E hr hsp=>by
  obtain⟨t,h,q⟩:=hbody cdv A outer s H vs Q E hr hsp;exact⟨t,h.nox,q⟩
end
theorem PS.nox{X:Cx}{st:Stmt}{t:TS}(h:PS X.nox st t):PS X st t:=λpins s σ H D I hw=>
 wpAny_mono (h pins s σ H D (I.wish _) hw) (λf s' q=>q.unwish) λ_ _ z=>z.elim
abbrev XS:=St->Value->Hp->Prop
abbrev TEx:=St->Hp->VK->XS->Prop
abbrev TSx:=Ends->XS->St->Hp->Prop
def XP(X:Cx)(pins:List (Addr×Obj))(E:XS)(e:Value)(s':Shared):Prop:=
 ∃σ H s ea T cls a0 H',e= .ref ea/\Inv X pins σ H s/\s'.os=s.os/\AllBare s'.gens/\Flung X.prog X.w (frs X.stack) H H' s.heap s'.heap ea T cls a0/\E σ cls H'
def PEx(X:Cx)(e:Expr)(t:TEx):Prop:=
 ∀(pins:List (Addr×Obj)) (s:Shared) (σ:St) (H:Hp) (Q:VK) (E:XS),Inv X pins σ H s->t σ H Q E->wpAny (model X.prog X.w) X.A (eval e X.env) (EP X pins σ Q) (XP X pins E) s
def PSx(X:Cx)(st:Stmt)(t:TSx):Prop:=
 ∀(pins:List (Addr×Obj)) (s:Shared) (σ:St) (H:Hp) (D:Ends) (E:XS),Inv X pins σ H s->t D E σ H->wpAny (model X.prog X.w) X.A (exec st X.env) (SP X pins D) (XP X pins E) s
def PSxs(X:Cx)(st:List Stmt)(t:TSx):Prop:=
 ∀(pins:List (Addr×Obj)) (s:Shared) (σ:St) (H:Hp) (D:Ends) (E:XS),Inv X pins σ H s->t D E σ H->wpAny (model X.prog X.w) X.A (execs st X.env) (SP X pins D) (XP X pins E) s
section
variable {X:Cx}{k:Nat}{f C:Addr}{fd:FuncData}{ps:List Str}{sp:Sp}{dvs:List V}{ds:List Value}{x m:Str}{p pos apos:Pos}{e o:Expr}{es:List Expr}{ta:TE}{t:TA}
theorem run_fnx{pins:List (Addr×Obj)}{σ:St}{H:Hp}{s:Shared}{Q:VK}{E:XS}{us:List Value}{vs:List V}(F:FnOk X.prog X.w X.K X.mg X.base (CXe X.prog X.w) k f fd ps sp)(hr:Room k X.A)(hb:Binds X.K fd ps ds)(hd:Vals dvs ds)
 (I:Inv X pins σ H s)(r:Vals vs us)(h:sp (vs++dvs) H Q λcls _ H2=>E σ cls H2):wpAny (model X.prog X.w) X.A (call (.ref f) us) (EP X pins σ Q) (XP X pins E) s:=by
 have r2:Vals (vs++dvs) (us++ds):=r.append hd;have hl:(us++ds).length=ps.length:=by rw[←r2.length];exact F.len _ _ _ _ h
 refine wpAny_call (codeAny_mono (F.run X.A X.stack s H ⟨us,[]⟩ (us++ds) (vs++dvs) Q _ hr I.env0 (hb s us I.kIn hl) r2 h) λr s' hq=>?_);cases r with
 |error e=>
  obtain⟨ea,T,cls,a0,H',rfl,ho,hg,F',hE⟩:=hq;exact⟨σ,H,s,ea,T,cls,a0,H',rfl,I,ho,hg,F',hE⟩
 |ok fl=>
  cases fl with
  |ret u=>exact I.after hq
  |next=>exact False.elim hq
  |brk=>exact False.elim hq
  |cont=>exact False.elim hq
def xCall(sp:Sp)(dvs:List V)(t:TA):TEx:=λσ H Q E=>t σ H λvs H1=>sp (vs++dvs) H1 Q λcls _ H2=>E σ cls H2
theorem Ud(F:FnOk X.prog X.w X.K X.mg X.base (CXe X.prog X.w) k f fd ps sp)(hr:Room k X.A)(hg:Gl X x)(hm:X.mg x=some (.ref f))(hk:W.keepIn X.K (.ref f)=true)(hb:Binds X.K fd ps ds)(hd:Vals dvs ds)
 (ha:PA X.nox (e::es) t)(hdb:(x==("__debug__":Str))=false:=by decide)(he:starEach (e::es) X.env=(false,eval e X.env)::starEach es X.env:=by rfl)(hpl:(backTo pos (starEach es X.env)).any (·.1)=false:=by rfl):
  PEx X (.Call (.Name x p) (e::es) [] pos) (xCall sp dvs t):=by
 intro pins s σ H Q E I h;refine wpAny_Call_Name_kw (US I hg hm ?_ hdb);refine W.callWith_K (h₀:=X.base) I.ok.mod.kin hk (wpAny_mono (ha pos pins s σ H _ (I.wish _) h) (λus s1 ⟨vs,H1,I1,r,q⟩=>⟨I1.unwish.kIn,?_⟩) λ_ _ z=>z.elim) he hpl;exact run_fnx F hr hb hd I1.unwish r q
end
section
variable {X:Cx}{pos:Pos}
theorem YS{st:Stmt}{t:TSx}(h1:PSx X st t):PSxs X [st] t:=by
 intro pins s σ H D E I h;refine wpAny_execs_cons (wpAny_mono (h1 pins s σ H D E I h) (λfl s1 q=>?_) λ_ _ z=>z);cases fl with
 |next=>obtain⟨σ1,H1,I1,q1⟩:=q;exact wpAny_execs_nil ⟨σ1,H1,I1,q1⟩
 |brk=>exact q
 |cont=>exact q
 |ret v=>exact q
theorem UP{i:Nat}{x:Str}{e:Expr}{te:TEx}{pos':Pos}(hN:X.N.Nodup)(hi:X.N[i]?=some x)(hx:Loc X.env.scope x)(he:PEx X e te)(hs:swapsWith e (some (.Name x pos')) pos.line X.env=pure false:=by rfl)(hf:X.fn x=true\/X.env.scope.names.lookup x=some .local:=by first|exact .inl rfl|exact .inr rfl|assumption):
  PSx X (.Assign [.Name x pos'] e pos) (λD E σ H=>te σ H (λv H1=>D.nx (σ.set i (some v)) H1) E):=by
 intro pins s σ H D E I h;refine wpAny_Assign_Name (wpAny_mono (he pins s σ H _ E I h) (λv s1 ⟨y,H1,I1,r1,q1⟩=>?_) λ_ _ z=>z) hs;exact Us I1 hN hi hx r1 (λs2 I2=>⟨_,H1,I2,q1⟩) hf
theorem psx_expr{e:Expr}{te:TEx}(he:PEx X e te)(hs:swapsWith e none pos.line X.env=pure false:=by rfl):PSx X (.Expr e pos) (λD E σ H=>te σ H (λ_ H1=>D.nx σ H1) E):=by
 intro pins s σ H D E I h;exact wpAny_Expr_any (wpAny_mono (he pins s σ H _ E I h) (λv s1 ⟨y,H1,I1,r1,q1⟩=>⟨σ,H1,I1,q1⟩) λ_ _ z=>z) I.quiet hs
theorem RB{c:Expr}{a b:List Stmt}{tc:TT}{t u:TSx}(hc:PT X.nox c tc)(ha:PSxs X a t)(hb:PSxs X b u):PSx X (.If c a b pos) (λD E σ H=>tc σ H λk H1=>if k=true then t D E σ H1 else u D E σ H1):=by
 intro pins s σ H D E I h;refine wpAny_If (wpAny_mono (hc pins s σ H _ (I.wish _) h) (λk s1 ⟨H1,I1,q⟩=>?_) λ_ _ z=>z.elim);cases k with
 |true=>exact ha pins s1 σ H1 D E I1.unwish (by simpa using q)
 |false=>exact hb pins s1 σ H1 D E I1.unwish (by simpa using q)
end
end L2
end
section
namespace L2
open PySem PySem.Spec PyProof.Rows
noncomputable def excO(ea:Addr)(cls:Value):HO:=.ext λh=>∃o vs,h.get? ea=some o/\o.cls=cls/\o.data= .fields vs
theorem excO_ok{P:Program}{w:World}{H:Hp}{h:Heap}{ea T:Addr}{cls a0:Value}(x:Thrown h ea T cls a0):ObjOk P w H h ea (excO ea cls):=by
 obtain⟨oe,vs,oT,ts,h1,h2,h3,_⟩:=x;refine⟨⟨oe,vs,h1,h2.1,h3⟩,⟨oe,h1⟩,λg1 g2 p k=>?_⟩;obtain⟨o,us,e,c,d⟩:=p;exact⟨o,us,k o e,c,d⟩
abbrev Cx.marked(X:Cx)(ea:Addr):Cx:={X with A:=X.A.mark (some (.ref ea)),calm:=false,xe:=λ_ _=>False}
section
variable {X:Cx}{pins:List (Addr×Obj)}{σ:St}{H H':Hp}{s s':Shared}{h h1 h2:Heap}{ea T:Addr}{cls a0:Value}{fs:List Addr}{P:Program}{w:World}
theorem Cx.Ok.marked(ok:X.Ok):(X.marked ea).Ok:=
 ⟨ok.mod,ok.kind,ok.glob,ok.blt,ok.above,ok.inj,ok.has,ok.cab,λz=>(Bool.noConfusion z),ok.frames,ok.stk,ok.exf,ok.bs,ok.bsz,ok.noex,ok.exfs,ok.funs,ok.frf⟩
theorem Inv.marked(I:Inv X pins σ H s):Inv (X.marked ea) pins σ H s:=⟨I.ok.marked,I.os,I.bare,I.base,I.loc,I.cell,I.free,I.freeC,I.pin,I.hok,I.len⟩
theorem Inv.unmarked(I:Inv (X.marked ea) pins σ H s)(ok:X.Ok):Inv X pins σ H s:=⟨ok,I.os,I.bare,I.base,I.loc,I.cell,I.free,I.freeC,I.pin,I.hok,I.len⟩
theorem Flung.track(F:Flung P w fs H H' h h1 ea T cls a0):Un fs [] H (upd H' ea (excO ea cls)) h h1/\HOk P w (upd H' ea (excO ea cls)) h1:=by
 have nb:∀b u,H' b=some u->b≠ea:=λb u q z=>by rw[z,F.fe] at q;cases q
 refine⟨⟨F.un.keep,F.un.slot,λb o e n hx=>?_,F.un.there,λb xs q=>?_,λb o u q=>?_,λb ps q=>?_⟩,λa o e=>?_⟩
 ·rw[Zc (λz=>by rw[z,F.ne] at e;cases e)];exact F.un.free b o e n hx
 ·have q':=F.un.tups b xs q;rw[Zc (nb b _ q')];exact q'
 ·have q':=F.un.frzs b o u q;rw[Zc (nb b _ q')];exact q'
 ·obtain⟨more,q'⟩:=F.un.tbls b ps q;exact⟨more,by rw[Zc (nb b _ q')];exact q'⟩
 ·by_cases ha:a=ea
  ·subst ha;rw[Zb] at e;cases e;exact excO_ok F.thr
  ·rw[Zc ha] at e;exact(F.hok a o e).stay (λb u _ q=>q) (λb q=>by rw[Zc (nb b _ q)];exact q) λb xs q=>by rw[Zc (nb b _ q)];exact q
theorem Inv.unbound{M:Model}{A:Around}{E:Value->Shared->Prop}{j:Nat}{n:Str}{npos:Pos}{Q:Unit->Shared->Prop}(I:Inv X pins σ H s)(hN:X.N.Nodup)(hj:X.N[j]?=some n)(hl:X.env.scope.names.lookup n=some .local)
 (k:∀s',Inv X pins (σ.set j none) H s'->Q () s'):wpAny M A (do bindName X.env n .none;unbindBehindTheSuite X.env n npos) Q E s:=by
 obtain⟨m,hn,look⟩:=id I.loc;obtain⟨oL,_,_,hoL,_⟩:=id hn;have hjσ:j<σ.length:=by rw[I.len];exact(List.getElem?_eq_some_iff.mp hj).1
 refine wpAny_nameGoes_keeps hl hn (by rw[I.ok.kind];rfl) λh' v hn' sb=>k _ ?_;have neL:∀b o,X.s₀.heap.get? b=some o->b≠X.env.locals:=λb o e=>Nat.ne_of_lt (Nat.lt_of_lt_of_le (Heap.lt_size e) I.ok.above);refine⟨I.ok,I.os,I.bare,⟨λb o e z hb hx=>(sb.2 b (neL b o e)).trans (I.base.keep b o e z hb hx),λb o e z hb hx=>?_,I.base.free,λb o e hx=>?_,I.base.tups,I.base.frzs,I.base.tbls⟩,⟨_,hn',λi x u e1 e2 e3=>?_⟩,λy c e=>?_,I.free,I.freeC,λp hp=>?_,λa o e=>?_,by simpa using I.len⟩
 ·obtain⟨sl,q⟩:=I.base.slot b o e z hb hx;exact⟨sl,(sb.2 b (neL b o e)).trans q⟩
 ·obtain⟨o',q⟩:=I.base.there b o e hx;exact⟨o',(sb.2 b (neL b o e)).trans q⟩
 ·by_cases hi:i=j
  ·subst hi;rw[List.getElem?_set_self hjσ] at e2;cases e2
  ·rw[List.getElem?_set_ne (Ne.symm hi)] at e2;obtain⟨u',r,q⟩:=look i x u e1 e2 e3;refine⟨u',r,?_⟩;rcases q with ⟨kk,e⟩|⟨kk,c,e,z⟩
   ·refine .inl ⟨kk,?_⟩;have nx:x≠n:=λz=>hi (RI hN e1 (z▸hj));simp[nx,e]
   ·exact .inr ⟨kk,c,e,z.sameBut sb (I.cne x c e)⟩
 ·obtain⟨w',z⟩:=I.cell y c e;exact⟨w',z.sameBut sb (I.cne y c e)⟩
 ·obtain⟨e,z,ne,nf,d⟩:=I.pin p hp;exact⟨(sb.2 p.1 ne).trans e,z,ne,nf,d⟩
 ·refine(I.hok a o e).stay (λb u hb q=>(sb.2 b λz=>?_).trans q) (λ_ q=>q) λ_ _ q=>q;have z':H b=none:=by rw[z];exact I.free
  rcases hb with hb|hb
  ·rw[hb,e] at z';cases z'
  ·rw[hb] at z';cases z'
theorem PD{K:W.Frag}{M:Model}{A:Around}{E:Value->Shared->Prop}{C Tc:Addr}{oe:Obj}{b:Bool}{Q:Bool->Shared->Prop}(x:K.In s.heap)(he:s.heap.get? ea=some oe)(hc:oe.cls= .ref C)
 (h0:W.instIn K (.ref Tc) (.type "tuple")=some false)(h1:(W.clsIn K Tc).isSome=true)(h2:W.subIn K (.ref Tc) (.type "BaseException")=some true)(h3:W.subIn K (.ref C) (.ref Tc)=some b)(hq:Q b s):
  wpAny M A (excMatches (.ref ea) (.ref Tc)) Q E s:=by
 have L0:W.Looks M s.heap (isInstance (.ref Tc) (.type "tuple")) false:=W.looks_instIn x h0;have L1:W.Looks M s.heap (isType (.ref Tc)) true:=by
  unfold W.clsIn at h1;split at h1
  ·rename_i c d cd sl look
   intro A' Q' E' s' k q;unfold isType loadHead;exact wpAny_bind (wpAny_loadPart (k _ _ (x _ _ look)) (wpAny_pure q))
  ·cases h1
 have L2':W.Looks M s.heap (isSubtype (.ref Tc) (.type "BaseException")) true:=W.looks_subIn x h2;have L3:W.Looks M s.heap (isSubtype (.ref C) (.ref Tc)) b:=W.looks_subIn x h3;have L4:W.Looks M s.heap (typeOf (.ref ea)) (.ref C):=hc▸(W.Looks.ld he).andThen .now;unfold excMatches;refine wpAny_bind (L0.here ?_);simp only[Bool.false_eq_true,if_false];refine wpAny_bind (wpAny_pure ?_);simp only[List.forIn_cons,List.forIn_nil];unfold isExcClass;refine wpAny_bind (wpAny_bind (wpAny_bind (wpAny_bind (L1.here ?_))));simp only[if_true];refine L2'.here ?_;simp only[Bool.not_true,Bool.false_eq_true,if_false];refine wpAny_pure (wpAny_pure ?_);refine wpAny_bind (L4.here ?_);refine wpAny_bind (wpAny_bind (wpAny_bind (L3.here ?_)));cases b with
 |true=>
  simp only[if_true];exact wpAny_pure (wpAny_pure (wpAny_pure hq))
 |false=>
  simp only[Bool.false_eq_true,if_false];exact wpAny_pure (wpAny_pure (wpAny_pure hq))
end
structure Ctch(K:W.Frag)(Tc:Addr):Prop where
 notup:W.instIn K (.ref Tc) (.type "tuple")=some false
 cls:(W.clsIn K Tc).isSome=true
 exc:W.subIn K (.ref Tc) (.type "BaseException")=some true
def tTry(K:W.Frag)(Tc:Addr)(j:Nat)(tb:TSx)(ts:TS):TS:=λD σ H=>tb D (λσ' cls H'=>∃C,cls= .ref C/\W.subIn K (.ref C) (.ref Tc)=some true/\∀ea,H' ea=none->
 ts {nx:=λσ'' H''=>D.nx (σ''.set j none) H'',rt:=λ_ _=>False} (σ'.set j (some (.ref ea))) (upd H' ea (excO ea (.ref C)))) σ H
theorem ps_try{X:Cx}{c n:Str}{np hpos pos:Pos}{body:List Stmt}{b0:Stmt}{suite:List Stmt}{j:Nat}{Tc:Addr}{tb:TSx}{ts:TS}(hst:X.stack=X.env::X.outer)(hfr:X.env.frame=some X.env.locals)(hN:X.N.Nodup)(hj:X.N[j]?=some n)
 (hl:X.env.scope.names.lookup n=some .local)(hg:Gl X c)(hm:X.mg c=some (.ref Tc))(hT:Ctch X.K Tc)(hb:PSxs X body tb)(hs:∀ea,PSs (X.marked ea) (b0::suite) ts)(hdb:(c==("__debug__":Str))=false:=by decide):
  PS X (.Try body [.ExceptHandler (some (.Name c np)) (some n) (b0::suite) hpos] [] [] pos) (tTry X.K Tc j tb ts):=by
 intro pins s σ H D I h;refine wpAny_Try_except (wpAny_mono (hb pins s σ H D _ I h) (λf s1 q=>?_) λe s1 q=>?_)
 ·cases f with
  |next=>exact wpAny_execs_nil q
  |brk=>exact q
  |cont=>exact q
  |ret v=>exact q
 ·obtain⟨σ',H1,s0,ea,T,cls,a0,H',rfl,I0,ho,hg',F,C,rfl,hsub,hts⟩:=q;have J:=I0.flung F ho hg';have fl:Heap.FlyingW (W.hideAll s1.heap (ea::T::frs X.stack)) (X.env::X.outer) ea (.ref C) a0 s1.heap:=by
   refine⟨λb o e=>W.of_hideAll _ e,W.hideAll_none _ List.mem_cons_self,?_,F.thr.traced (W.hideAll_none _ (by simp))⟩;rw[←hst];exact J.hid λb m=>List.mem_cons_of_mem _ (List.mem_cons_of_mem _ m)
  refine wpAny_looks_onW (L:=X.env.locals) (by rw[I.ok.frames,hst]) hfr fl λh2 held up=>?_;refine wpAny_landsW held λh3 fly up'=>?_;obtain⟨T3,F3⟩:=RP F J.frOk J.stkFree fly.1 (up.trans up') fly.2.2.2;have J3:Inv X pins σ' H' {s1 with heap:=h3}:=I0.flung (s':={s1 with heap:=h3}) F3 ho hg';refine wpAny_handleBy_cons (codeAny_handlers_test (US (X:=X.marked ea) J3.marked hg hm ?_ hdb)) (by intro q;cases q);obtain⟨oe,ov,oT,ts',g1,g2,g3,_⟩:=id F3.thr;refine PD (s:={s1 with heap:=h3}) (K:=X.K) J3.kIn g1 g2.1 hT.notup hT.cls hT.exc hsub ?_;refine codeAny_handlers_suite_as (lands_againW fly λh4 fly4 up4=>?_);obtain⟨T4,F4⟩:=RP F J.frOk J.stkFree fly4.1 ((up.trans up').trans up4) fly4.2.2.2;have J4:Inv X pins σ' (upd H' ea (excO ea (.ref C))) {s1 with heap:=h4}:=I0.call' (s':={s1 with heap:=h4}) ho F4.track.1 F4.track.2 hg' λb z=>absurd z (by simp);refine Us (X:=X.marked ea) J4.marked hN hj (.inl hl) (v:=.ref ea) rfl (λs5 J5=>?_) (.inr hl);refine wpAny_mono (hs ea pins s5 _ _ _ J5 (hts ea F4.fe)) (λf s6 q6=>?_) λ_ _ z=>z.elim;cases f with
  |next=>
   obtain⟨σ6,H6,J6,q6⟩:=q6;exact(J6.unmarked I.ok).unbound hN hj hl λs7 J7=>⟨_,H6,J7,q6⟩
  |brk=>obtain⟨_,_,_,q⟩:=q6;exact q.elim
  |cont=>obtain⟨_,_,_,q⟩:=q6;exact q.elim
  |ret v=>obtain⟨_,_,_,_,_,q⟩:=q6;exact q.elim
end L2
end
section
namespace L2
open PySem PySem.Spec PyProof.Rows
theorem Inv.track{X:Cx}{pins:List (Addr×Obj)}{σ:St}{H:Hp}{s:Shared}{a:Addr}{o:HO}(I:Inv X pins σ H s)(n:H a=none)(h1:a∈X.ex\/X.s₀.heap.objs.size<=a)(hL:a≠X.env.locals)
 (h2:∀x c,X.env.cells.lookup x=some c->c≠a)(h3:∀p∈X.pn++pins,p.1≠a)(new:ObjOk X.prog X.w (upd H a o) s.heap a o):Inv X pins σ (upd H a o) s:=by
 have nb:∀b u,H b=some u->b≠a:=λb u q z=>by rw[z,n] at q;cases q
 refine I.step (g':=s.gens) (d':=s.drawn) (t':=s.toks) (h':=s.heap) (ch:=[a]) (λb hb=>?_) (λb o _ _ _ e _=>e) (λb o _ _ _ e _=>⟨o.slots,e⟩) (λb o hc e z=>?_) (λb o _ e=>⟨o,e⟩)
  (λb xs q=>?_) (λb o u q=>?_) (λb ps q=>⟨#[],?_⟩) (λm hm=>hm) (λb u q=>?_) I.bare
 ·have e:b=a:=by simpa using hb
  subst e;exact⟨h1,hL,h2,h3⟩
 ·rw[Zc (by simpa using hc)];exact z
 ·rw[Zc (nb b _ q)];exact q
 ·rw[Zc (nb b _ q)];exact q
 ·rw[Zc (nb b _ q),q];simp
 ·by_cases hb:b=a
  ·subst hb;rw[Zb] at q;cases q;exact new
  ·rw[Zc hb] at q;exact(I.hok b u q).stay (λ_ _ _ z=>z) (λc z=>by rw[Zc (nb c _ z)];exact z) λc xs z=>by rw[Zc (nb c _ z)];exact z
noncomputable def Vj(X:Cx)(NB:List Str)(scope:Scope)(cl:List (Str×Addr))(s0:Shared)(H0:Hp)(ex:List Addr):Cx:=
 {X with N:=NB,s₀:=s0,H₀:=H0,env:=compEnvC scope cl s0.heap.objs.size X.env,outer:=X.stack,ex:=ex,fn:=λ_=>false,pn:=[],xe:=λ_ _=>False}
structure CompOk(X:Cx)(scope:Scope)(cl:List (Str×Addr))(NB:List Str)(fv:List (Option Nat)):Prop where
 clos:closureFor scope X.env=pure cl
 kind:scope.kind= .function
 nocell:∀y∈scope.names,y.2≠.cell
 names:∀y∈scope.names,y.2= .local->scope.names.lookup y.1=some .local
 nd:NB.Nodup
 len:fv.length=NB.length
 sub:∀x c,cl.lookup x=some c->X.env.cells.lookup x=some c
 has:∀x,((relabel scope X.env).names.lookup x=some .cell\/(relabel scope X.env).names.lookup x=some .free)->∃c,cl.lookup x=some c
 free:∀(i:Nat) x j,NB[i]?=some x->fv[i]?=some (some j)->X.N[j]?=some x/\Vis X.env.scope x/\X.env.kindOf x≠some .local/\(∃c,cl.lookup x=some c)/\
  ((relabel scope X.env).names.lookup x=some .cell\/(relabel scope X.env).names.lookup x=some .free)
noncomputable def blk(fv:List (Option Nat))(σ:St):St:=fv.map λo=>o.bind λj=>(σ[j]?).join
theorem blk_at{fv:List (Option Nat)}{σ:St}{i:Nat}{v:V}(h:(blk fv σ)[i]?=some (some v)):∃j,fv[i]?=some (some j)/\σ[j]?=some (some v):=by
 unfold blk at h;rw[List.getElem?_map] at h;cases e:fv[i]? with
 |none=>rw[e] at h;cases h
 |some o=>
  rw[e] at h;cases o with
  |none=>cases h
  |some j=>
   have h':(σ[j]?).join=some v:=Option.some.inj h;cases q:σ[j]? with
   |none=>rw[q] at h';cases h'
   |some z=>
    rw[q] at h';have h'':z=some v:=h';exact⟨j,rfl,by rw[q,h'']⟩
theorem blk_none{fv:List (Option Nat)}{σ:St}{i:Nat}(h:fv[i]?=some none):(blk fv σ)[i]?=some none:=by
 unfold blk;rw[List.getElem?_map,h];rfl
theorem blk_len{fv:List (Option Nat)}{σ:St}:(blk fv σ).length=fv.length:=by
 unfold blk;rw[List.length_map]
def PIfs(X:Cx)(ifs:List Expr)(t:TT):Prop:=
 ∀(pins:List (Addr×Obj)) (s:Shared) (σ:St) (H:Hp) (Q:Bool->Hp->Prop),Inv X pins σ H s->t σ H Q->
  wpAny (model X.prog X.w) X.A (forIn ifs true λc r=>if r=true then do let ok←isTrue c X.env (eval c X.env);pure (ForInStep.yield ok) else pure (ForInStep.yield r)) (TP X pins σ Q) X.xe s
theorem VU{X:Cx}:PIfs X [] (λ_ H Q=>Q true H):=λ_ _ _ H _ I h=>wpAny_tests_nil ⟨H,I,h⟩
theorem pifs_one{X:Cx}{c:Expr}{t:TT}(h:PT X c t):PIfs X [c] t:=λpins s σ H Q I hw=>wpAny_tests_one (h pins s σ H Q I hw)
section
variable {X:Cx}{pins:List (Addr×Obj)}{σ:St}{H:Hp}{s:Shared}{scope:Scope}{cl:List (Str×Addr)}{NB:List Str}{fv:List (Option Nat)}{ex:List Addr}
theorem comp_start{h1:Heap}{tk:Nat}(I:Inv X pins σ H s)(O:CompOk X scope cl NB fv)(hex:∀b∈ex,b<s.heap.objs.size/\b≠X.env.locals/\b∉X.fs/\(∀x c,X.env.cells.lookup x=some c->c≠b)/\H b=none/\∀o,X.base.get? b≠some o)
 (hns:h1.Ns s.heap.objs.size (λx=>(([]:List (Str×Value)).reverse).lookup x))(old:∀b o,s.heap.get? b=some o->h1.get? b=some o):Inv (Vj X NB scope cl s H ex) [] (blk fv σ) H {s with heap:=h1,toks:=tk}:=by
 have hC:H s.heap.objs.size=none:=I.hok.fresh (Nat.le_refl _);refine⟨⟨I.ok.mod,?_,I.ok.glob,I.ok.blt,Nat.le_refl _,λx y c e1 e2=>I.ok.inj x y c (O.sub x c e1) (O.sub y c e2),λx hx=>O.has x hx,λx c z=>(Bool.noConfusion z),I.ok.hd,I.ok.frames,.inl rfl,λb hb=>⟨Nat.ne_of_lt (hex b hb).1,λx c e=>(hex b hb).2.2.2.1 x c (O.sub x c e)⟩,I.bs,Nat.le_trans I.ok.bsz I.sz,
  λb o e hb=>(hex b hb).2.2.2.2.2 o e,λb hb m=>?_,I.stack,I.stkFree⟩,rfl,I.bare,Un.kept old,⟨_,hns,λi x v e1 e2 e3=>?_⟩,λx c e=>?_,hC,λx c e=>I.freeC x c (O.sub x c e),λp hp=>absurd (show p∈([]:List (Addr×Obj)) from hp) (by simp),I.hok.kept old,by rw[blk_len];exact O.len⟩
 ·exact O.kind
 ·rcases List.mem_cons.mp (I.stkSub b m) with z|z
  ·exact(hex b hb).2.1 z
  ·exact(hex b hb).2.2.1 z
 ·obtain⟨j,f1,f2⟩:=blk_at e2;obtain⟨n1,n2,n3,⟨c,n4⟩,n5⟩:=O.free i x j e1 f1;obtain⟨m,hn,look⟩:=I.loc;obtain⟨u,r,l⟩:=look j x v n1 f2 n2;refine⟨u,r,.inr ⟨n5,c,n4,?_⟩⟩;rcases l with ⟨z,_⟩|⟨_,c',e,z⟩
  ·exact absurd z n3
  ·rw[O.sub x c n4] at e;cases e;obtain⟨oc,hoc,hd⟩:=z;exact⟨oc,old c oc hoc,hd⟩
 ·obtain⟨v,oc,hoc,hd⟩:=I.cell x c (O.sub x c e);exact⟨v,oc,old c oc hoc,hd⟩
variable {x:Str}{px pos:Pos}{elt iter:Expr}{ifs:List Expr}{jx:Nat}{tc:TT}{te:TE}{J:It}{fp:List Addr}{it:Addr}{tn:Nat->Heap->Prop}
structure Off(X:Cx)(pins:List (Addr×Obj))(a:Addr):Prop where
 new:X.s₀.heap.objs.size<=a
 loc:a≠X.env.locals
 cell:∀x c,X.env.cells.lookup x=some c->c≠a
 pin:∀p∈X.pn++pins,p.1≠a
 fs:a∉X.fs
theorem Inv.offNew{a:Addr}(I:Inv X pins σ H s)(h:s.heap.objs.size<=a):Off X pins a:=by
 obtain⟨_,f1,f2,f3,f4,f5⟩:=I.fpOk (H':=λ_=>none) h rfl;exact⟨Nat.le_trans I.sz h,f1,f4,f5,f2⟩
theorem Inv.touch{C:Addr}{h'':Heap}{tk:Nat}(I:Inv X pins σ H s)(n:H C=none)(o:Off X pins C)(sb:Heap.SameBut C s.heap h''):Inv X pins σ H {s with heap:=h'',toks:=tk}:=
 I.turned (it:=C) (λb ob hb e=>(sb.2 b hb).trans e) n o.loc (.inr o.new) o.cell o.pin
theorem QG{W:Nat->Nat->List V->Hp->Prop}{Fin:List V->Hp->Prop}{RR:Value->Addr->Result->Shared->Prop}(I:Inv X pins σ H s)(T:Turn X.prog X.w X.K (.Name x px) J fp it tn)(st:tn 0 s.heap)(hf:∀b∈fp,FpOk X pins H b)(hc:X.calm=true)
 (O:CompOk X scope cl NB fv)(hx:scope.names.lookup x=some .local)(hjx:NB[jx]?=some x)(hfx:fv[jx]?=some none)(hC:∀s0 H0 ex,PIfs (Vj X NB scope cl s0 H0 ex) ifs tc)(hE:∀s0 H0 ex,PE (Vj X NB scope cl s0 H0 ex) elt te)
 (w0:∃m,W 0 m [] H)
 (turn:∀i m ys H,W i m ys H->ys.length<sizeLine/\((J.stop i H/\Fin ys H)\/(J.go i H/\∀v H',J.yld i H v H'->tc ((blk fv σ).set jx (some v)) H' λb H2=>if b=true then te ((blk fv σ).set jx (some v)) H2 λy H3=>∃m',m'<m/\W (i+1) m' (ys++[y]) H3 else ∃m',m'<m/\W (i+1) m' ys H2)))
 (hRR:∀acc C s' H' ys m,H' acc=none->Inv X pins σ (upd H' acc (.lst ys)) s'->s'.heap.Ns C m->Off X pins C->upd H' acc (.lst ys) C=none->Fin ys H'->RR (.ref acc) C (.ok .next) s'){E:Value->Shared->Prop}:
  wpAny (model X.prog X.w) X.A (newList []) (λacc s3=>wpAny (model X.prog X.w) X.A (newFunctionEnv scope X.env.globals cl [] X.env.qual none .none (some X.env)) (λcenv s4=>
   codeAny (model X.prog X.w) X.A (.compStart (.ListComp elt [⟨.Name x px,iter,ifs,0⟩] scope pos) 0 (.ref it) acc {cenv with scope:=relabel scope X.env}) (RR acc cenv.locals) s4) E s3) E s:=by
 obtain⟨m0,w0⟩:=w0;refine wpAny_newList (wpAny_newFunctionEnv O.nocell (by intro y hy;simp at hy) (λh1 hns hsb=>?_) O.kind);dsimp only at hns hsb ⊢;generalize hs3:({s with heap:=s.heap.push {cls:=.type "list",data:=.seq ([]:List Value).toArray}}:Shared)=s3;have e3:s3.heap=s.heap.push {cls:=.type "list",data:=.seq ([]:List Value).toArray}:=by rw[←hs3]
 have I3:Inv X pins σ H s3:=by
  rw[←hs3];exact I.kept (t':=s.toks) λb o e=>Heap.get?_push_of_some _ e
 have sz3:s3.heap.objs.size=s.heap.objs.size+1:=by rw[e3,Heap.size_push]
 have nacc:H s.heap.objs.size=none:=I.hok.fresh (Nat.le_refl _);have offA:=I.offNew (a:=s.heap.objs.size) (Nat.le_refl _);have tn3:tn 0 s3.heap:=T.keep 0 s.heap s3.heap st λb _ o e=>by rw[e3];exact Heap.get?_push_of_some _ e
 have lt:∀b∈fp,b<s.heap.objs.size:=λb hb=>by
  obtain⟨o,e,_⟩:=T.obj 0 s.heap st b hb;exact Heap.lt_size e
 have nofs:∀b,b≠X.env.locals->b∉X.fs->b∉frs X.stack:=λb h1 h2 m=>by
  rcases List.mem_cons.mp (I.stkSub b m) with z|z
  ·exact h1 z
  ·exact h2 z
 have nobase:∀b,(b∈X.ex\/X.s₀.heap.objs.size<=b)->∀o,X.base.get? b≠some o:=λb hb o e=>by
  rcases hb with z|z
  ·exact I.ok.noex b o e z
  ·exact absurd (Nat.lt_of_lt_of_le (Heap.lt_size (I.ok.bs b o e).1) z) (Nat.lt_irrefl _)
 have IY0:=comp_start (ex:=s.heap.objs.size::fp) (h1:=h1) (tk:=s.toks+([]:List (Str×Value)).length) I3 O (λb hb=>by
  rcases List.mem_cons.mp hb with z|hb
  ·rw[z];exact⟨by rw[sz3];exact Nat.lt_succ_self _,offA.loc,offA.fs,offA.cell,nacc,nobase _ (.inr offA.new)⟩
  ·obtain⟨f0,f1,f2,f3,f4,f5⟩:=hf b hb;exact⟨by rw[sz3];exact Nat.lt_succ_of_lt (lt b hb),f1,f2,f4,f0,nobase b f3⟩) (by rw[e3];exact hns) (λb o e=>by
  rw[e3] at e;exact hsb.extBut b o (Nat.ne_of_lt (Heap.lt_size e)) (Heap.get?_push_of_some _ e))
 generalize hY:Vj X NB scope cl s3 H (s.heap.objs.size::fp)=Y at IY0;have hCY:PIfs Y ifs tc:=hY▸hC s3 H _;have hEY:PE Y elt te:=hY▸hE s3 H _;have yP:Y.prog=X.prog:=by rw[←hY];rfl
 have yw:Y.w=X.w:=by rw[←hY];rfl
 have yK:Y.K=X.K:=by rw[←hY];rfl
 have yA:Y.A=X.A:=by rw[←hY];rfl
 have yc:Y.calm=true:=by rw[←hY];exact hc
 have yN:Y.N=NB:=by rw[←hY];rfl
 have yenv:Y.env=compEnvC scope cl s3.heap.objs.size X.env:=by rw[←hY];rfl
 have yfs:Y.fs=frs X.stack:=by rw[←hY];rfl
 have yex:Y.ex=s.heap.objs.size::fp:=by rw[←hY];rfl
 have ypn:Y.pn=[]:=by rw[←hY];rfl
 have yxe:Y.xe=λ_ _=>False:=by rw[←hY];rfl
 have ys0:Y.s₀=s3:=by rw[←hY];rfl
 have yH0:Y.H₀=H:=by rw[←hY];rfl
 have yloc:Y.env.locals=s3.heap.objs.size:=by rw[yenv];rfl
 have ycell:∀z c,Y.env.cells.lookup z=some c->X.env.cells.lookup z=some c:=λz c e=>by
  rw[yenv] at e;exact O.sub z c e
 have yx:Y.env.scope.names.lookup x=some .local:=by
  rw[yenv];exact lookup_relabel_local hx
 have accA:∀z c,Y.env.cells.lookup z=some c->c≠s.heap.objs.size:=λz c e=>offA.cell z c (ycell z c e);have accL:s.heap.objs.size≠Y.env.locals:=by rw[yloc,sz3];exact Nat.ne_of_lt (Nat.lt_succ_self _)
 have fpY:∀{H':Hp} {o:Obj} {pl:List (Addr×Obj)},(∀p∈pl,p.1=s.heap.objs.size)->(∀b∈fp,H' b=none)->∀b∈fp,FpOk Y pl H' b:=λ{H' o pl} hpl hn b hb=>by
  obtain⟨f0,f1,f2,f3,f4,f5⟩:=hf b hb;refine⟨hn b hb,?_,?_,.inl ?_,λz c e=>f4 z c (ycell z c e),λp hp=>?_⟩
  ·rw[yloc,sz3];exact Nat.ne_of_lt (Nat.lt_succ_of_lt (lt b hb))
  ·rw[yfs];exact nofs b f1 f2
  ·rw[yex];exact List.mem_cons_of_mem _ hb
  ·rw[ypn] at hp;rw[hpl p hp];exact Ne.symm (Nat.ne_of_lt (lt b hb))
 have T':Turn Y.prog Y.w Y.K (.Name x px) J fp it tn:=by rw[yP,yw,yK];exact T
 have loop:∀s4:Shared,Inv Y [] (blk fv σ) H s4->tn 0 s4.heap->s4.heap.get? s.heap.objs.size=some {cls:=.type "list",data:=.seq ([]:List Value).toArray}->
   codeAny (model X.prog X.w) X.A (.compLoop (.ListComp elt [⟨.Name x px,iter,ifs,0⟩] scope pos) 0 (.ref it) (.ref s.heap.objs.size) (compEnvC scope cl s3.heap.objs.size X.env)) (RR (.ref s.heap.objs.size) s3.heap.objs.size) s4:=by
  intro s4 I4 t4 a4;rw[←yenv,←yP,←yw,←yA];refine codeAny_compLoop_tests (λk s'=>∃i ys H' its n,Inv Y [] (blk fv σ) H' s'/\tn i s'.heap/\(∀b∈fp,H' b=none)/\H' s.heap.objs.size=none/\s'.heap.get? s.heap.objs.size=some {cls:=.type "list",data:=.seq (its:List Value).toArray n}/\Vals ys its/\W i k ys H') ?_ m0
   ⟨0,[],H,[],_,I4,t4,λb hb=>(hf b hb).1,nacc,a4,.nil,w0⟩
  rintro k s5 ⟨i,ys,H5,its,n,I5,t5,f5,n5,a5,v5,w5⟩;obtain⟨hlen,hturn⟩:=turn i k ys H5 w5;have pinA:∀p∈[(s.heap.objs.size,({cls:=.type "list",data:=.seq (its:List Value).toArray n}:Obj))],s5.heap.get? p.1=some p.2/\H5 p.1=none/\p.1≠Y.env.locals/\p.1∉Y.fs/\∀v,p.2.data≠.cell v:=λp hp=>by
   have e:=List.mem_singleton.mp hp;subst e;refine⟨a5,n5,accL,?_,λv z=>by cases z⟩;rw[yfs];exact nofs _ offA.loc offA.fs
  have I5p:=I5.pins_of pinA;have fpo:=fpY (H':=H5) (o:={cls:=.type "list",data:=.seq (its:List Value).toArray n}) (pl:=[(s.heap.objs.size,({cls:=.type "list",data:=.seq (its:List Value).toArray n}:Obj))]) (λp hp=>by rw[List.mem_singleton.mp hp]) f5;rcases hturn with ⟨stop,fin⟩|⟨go,step⟩
  ·refine thn (T'.done Y rfl rfl rfl yc i _ s5 (blk fv σ) H5 _ I5p fpo t5 stop) λr s6 ⟨hr,I6⟩=>?_;subst hr;have a6:=(I6.pin (s.heap.objs.size,_) (by rw[ypn];exact List.mem_singleton.mpr rfl)).1;have u6:=I6.base;rw[yfs,yex,yH0,ys0] at u6;have hok6:=I6.hok;rw[yP,yw] at hok6;have os6:=I6.os;rw[ys0] at os6;have I7:Inv X pins σ H5 s6:=I3.call' os6 u6 hok6 I6.bare λb hb=>by
    rcases List.mem_cons.mp hb with z|hb
    ·rw[z];exact⟨.inr offA.new,offA.loc,offA.cell,offA.pin⟩
    ·obtain⟨f0,f1,f2,f3,f4,f5⟩:=hf b hb;exact⟨f3,f1,f4,f5⟩
   have I8:Inv X pins σ (upd H5 s.heap.objs.size (.lst ys)) s6:=I7.track n5 (.inr offA.new) offA.loc offA.cell offA.pin ⟨Nat.le_of_lt hlen,its,n,v5,a6⟩;obtain⟨mC,hnC,_⟩:=I6.loc;rw[yloc] at hnC;have offC:=I3.offNew (a:=s3.heap.objs.size) (Nat.le_refl _);refine hRR s.heap.objs.size s3.heap.objs.size s6 H5 ys mC n5 I8 hnC offC ?_ fin;rw[Zc (by rw[sz3];exact Nat.succ_ne_self _),←yloc];exact I6.free
  ·refine thn (T'.item Y rfl rfl rfl yc i _ s5 (blk fv σ) H5 _ I5p fpo t5 go) λr s6 ⟨u,hr,h6⟩=>?_;subst hr;show wpAny _ _ (letOwnedTupleGo (.Name x px) (.ref it) u >>= λ_=>assign (.Name x px) Y.env u) _ _ s6;refine wpAny_bind (thn h6 λ_ s7 ⟨v,H7,I7,r7,y7,t7,f7⟩=>?_);have fpo7:=fpY (H':=H7) (o:={cls:=.type "list",data:=.seq (its:List Value).toArray n}) (pl:=[(s.heap.objs.size,({cls:=.type "list",data:=.seq (its:List Value).toArray n}:Obj))]) (λp hp=>by rw[List.mem_singleton.mp hp]) f7;have I7p:=I7.pinned fpo7 (T'.obj _ _ t7);refine wpAny_assign_Name (Us I7p (by rw[yN];exact O.nd) (by rw[yN];exact hjx) (.inl yx) r7 (λs8 I8=>?_) (.inr yx));have bad:∀(e:Value) (s':Shared),Y.xe e s'->notedBy (model Y.prog Y.w) Y.A Y.env (λe s'=>RR (.ref s.heap.objs.size) s3.heap.objs.size (.error e) s') e s':=λe s' z=>by
    rw[yxe] at z;exact z.elim
   have after:∀{ys':List V} {its':List Value} {n':Nat} {pl:List (Addr×Obj)} {H9:Hp} {s9:Shared},Inv Y pl ((blk fv σ).set jx (some v)) H9 s9->(∀p∈Th fp s7.heap,p∈pl)->H9 s.heap.objs.size=none->
     s9.heap.get? s.heap.objs.size=some {cls:=.type "list",data:=.seq (its':List Value).toArray n'}->Vals ys' its'->(∃m',m'<k/\W (i+1) m' ys' H9)->∃m',m'<k/\∃i ys H' its n,Inv Y [] (blk fv σ) H' s9/\tn i s9.heap/\(∀b∈fp,H' b=none)/\H' s.heap.objs.size=none/\s9.heap.get? s.heap.objs.size=some {cls:=.type "list",data:=.seq (its:List Value).toArray n}/\Vals ys its/\W i m' ys H':=λ{ys' its' n' pl H9 s9} I9 hp9 n9 a9 v9 w9=>by
    obtain⟨m',hm,w9⟩:=w9;have pinned:∀b∈fp,∀o,s7.heap.get? b=some o->s9.heap.get? b=some o/\H9 b=none:=λb hb o e=>by
     have z:=I9.pin (b,o) (List.mem_append_right _ (hp9 _ (Tl hb e)));exact⟨z.1,z.2.1⟩
    refine⟨m',hm,i+1,ys',H9,its',n',(I9.pins_of (pins':=[]) λp hp=>absurd hp (by simp)).weak (by simp) (λa z e=>?_),T'.keep _ _ _ t7 λb hb o e=>(pinned b hb o e).1,λb hb=>?_,n9,a9,v9,w9⟩
    ·by_cases ha:jx=a
     ·subst ha;rw[blk_none hfx] at e;cases e
     ·rw[List.getElem?_set_ne ha];exact e
    ·obtain⟨o,e,_⟩:=T'.obj _ _ t7 b hb;exact(pinned b hb o e).2
   have inA:∀{H9:Hp} {σ9:St} {s9:Shared},Inv Y ([(s.heap.objs.size,({cls:=.type "list",data:=.seq (its:List Value).toArray n}:Obj))]++Th fp s7.heap) σ9 H9 s9->s9.heap.get? s.heap.objs.size=some {cls:=.type "list",data:=.seq (its:List Value).toArray n}/\H9 s.heap.objs.size=none:=λI9=>by
    have z:=I9.pin (s.heap.objs.size,_) (List.mem_append_right _ (List.mem_append_left _ (List.mem_singleton.mpr rfl)));exact⟨z.1,z.2.1⟩
   refine wpAny_mono (hCY _ s8 _ H7 _ I8 (step v H7 y7)) (λok s9 ⟨H9,I9,q9⟩=>?_) bad;cases ok with
   |false=>
    exact after I9 (λp hp=>List.mem_append_right _ hp) (inA I9).2 (inA I9).1 v5 (by simpa using q9)
   |true=>
    rw[if_pos rfl] at q9;refine wpAny_mono (hEY _ s9 _ H9 _ I9 q9) (λu10 s10 ⟨y,H10,I10,r10,q10⟩=>?_) bad;refine append_at (inA I10).1 (λh' sb ha=>?_) (by rw[List.size_toArray,←v5.length];exact Nat.le_of_lt hlen);have I11:=(I10.pins_of (pins':=Th fp s7.heap) λp hp=>I10.pin p (List.mem_append_right _ (List.mem_append_right _ hp))).turned (it:=s.heap.objs.size) (h':=h') (t':=s10.toks) (λb o hb e=>(sb.2 b hb).trans e) (inA I10).2 accL (.inl (by rw[yex];exact List.mem_cons_self)) accA (λp hp=>by
     rw[ypn] at hp;obtain⟨hb,_⟩:=Qr hp;exact Nat.ne_of_lt (lt _ hb))
    refine after (its':=its++[u10]) (n':=n+1) I11 (λp hp=>hp) (inA I10).2 ?_ (v5.append (.cons r10 .nil)) q10;rw[show ({s10 with heap:=h',toks:=s10.toks}:Shared).heap=h' from rfl,ha];simp
 have hs4:s.heap.push {cls:=.type "list",data:=.seq ([]:List Value).toArray}=s3.heap:=e3.symm;have acc1:h1.get? s.heap.objs.size=some {cls:=.type "list",data:=.seq ([]:List Value).toArray}:=hsb.extBut _ _ (by rw[Heap.size_push];exact Nat.ne_of_lt (Nat.lt_succ_self _)) (Heap.get?_push_of_some _ (Heap.get?_push_size _ rfl));have tn1:tn 0 h1:=T.keep 0 s.heap h1 st λb _ o e=>hsb.extBut b o (by rw[Heap.size_push];exact Nat.ne_of_lt (Nat.lt_succ_of_lt (Heap.lt_size e))) (Heap.get?_push_of_some _ (Heap.get?_push_of_some _ e));have l4:=loop _ IY0 (by exact tn1) (by exact acc1);rw[←hs3] at l4;exact codeAny_compStart_list l4 (T.self X.A 0 _ _ _ tn1 l4)
end
def tComp(wi:TI)(fv:List (Option Nat))(jx:Nat)(tc:TT)(te:TE):TE:=λσ H Q=>wi σ H λJ H1=>∃W:Nat->Nat->List V->Hp->Prop,(∃m,W 0 m [] H1)/\∀i m ys H,W i m ys H->ys.length<sizeLine/\
 ((J.stop i H/\∀acc,H acc=none->Q (.ref acc) (upd H acc (.lst ys)))\/(J.go i H/\∀v H',J.yld i H v H'->tc ((blk fv σ).set jx (some v)) H' λb H2=>if b=true then te ((blk fv σ).set jx (some v)) H2 λy H3=>∃m',m'<m/\W (i+1) m' (ys++[y]) H3 else ∃m',m'<m/\W (i+1) m' ys H2))
section
variable {X:Cx}{scope:Scope}{cl:List (Str×Addr)}{NB:List Str}{fv:List (Option Nat)}{x y:Str}{px py pos spos:Pos}{elt iter:Expr}{ifs:List Expr}{jx iy:Nat}{wi:TI}{tc:TT}{te:TE}
theorem pe_comp(hc:X.calm=true)(O:CompOk X scope cl NB fv)(hi:PI X (.Name x px) iter wi)(hx:scope.names.lookup x=some .local)(hjx:NB[jx]?=some x)(hfx:fv[jx]?=some none)(hC:∀s0 H0 ex,PIfs (Vj X NB scope cl s0 H0 ex) ifs tc)
 (hE:∀s0 H0 ex,PE (Vj X NB scope cl s0 H0 ex) elt te)(hs:∀x,foldedSetIterable iter X.env x=pure x:=by intro _;rfl):PE X (.ListComp elt [⟨.Name x px,iter,ifs,0⟩] scope pos) (tComp wi fv jx tc te):=by
 intro pins s σ H Q I h;rw[eval_ListComp];refine wpAny_comprehension_free (use:=none) rfl hs O.clos O.kind O.names (thn (hi pins s σ H _ I h) λv s1 h1=>thn h1 λitv s2 h2=>?_);obtain⟨it,fp,tn,J,H2,e,I2,T,st2,f2,W,w0,turn⟩:=h2;subst e;refine QG (RR:=λacc C=>compPost (model X.prog X.w) X.A X.xe none (EP X pins σ Q) acc C) I2 T st2 f2 hc O hx hjx hfx hC hE w0 turn λacc C s' H' ys m na I' hn oC nC fin=>?_;exact⟨m,hn,λh'' sb=>⟨.ref acc,_,I'.touch (tk:=s'.toks) nC oC sb,rfl,fin acc na⟩⟩
theorem ps_setComp(hc:X.calm=true)(O:CompOk X scope cl NB fv)(hi:PI X (.Name x px) iter wi)(hx:scope.names.lookup x=some .local)(hjx:NB[jx]?=some x)(hfx:fv[jx]?=some none)(hC:∀s0 H0 ex,PIfs (Vj X NB scope cl s0 H0 ex) ifs tc)
 (hE:∀s0 H0 ex,PE (Vj X NB scope cl s0 H0 ex) elt te)(hN:X.N.Nodup)(hiy:X.N[iy]?=some y)(hy:Loc X.env.scope y)
 (hsw:swapsWith (.ListComp elt [⟨.Name x px,iter,ifs,0⟩] scope pos) (some (.Name y py)) spos.line X.env=pure true)(hs:∀x,foldedSetIterable iter X.env x=pure x:=by intro _;rfl)
 (hf:X.fn y=true\/X.env.scope.names.lookup y=some .local:=by first|exact .inl rfl|exact .inr rfl|assumption):
  PS X (.Assign [.Name y py] (.ListComp elt [⟨.Name x px,iter,ifs,0⟩] scope pos) spos) (tAsg (tComp wi fv jx tc te) (gName iy)):=by
 intro pins s σ H D I h;rw[exec_Assign_Name_used _ _ _ _ hsw];refine wpAny_bind (wpAny_standAt (wpAny_bind ?_));show wpAny _ _ (do let _←comprehension (.ListComp elt [⟨.Name x px,iter,ifs,0⟩] scope pos) scope X.env _ (newList []) false (eval iter X.env) (some (assign (.Name y py) X.env))) _ _ s;refine wpAny_bind (wpAny_mono (wpAny_comprehension_free (use:=some (assign (.Name y py) X.env)) (Q:=λ_ s'=>SP X pins D .next s') rfl hs O.clos O.kind O.names (thn (hi pins s σ H _ I h) λv s1 h1=>thn h1 λitv s2 h2=>?_)) (λ_ s' hq=>wpAny_pure (wpAny_pure hq)) λ_ _ e=>e);obtain⟨it,fp,tn,J,H2,e,I2,T,st2,f2,W,w0,turn⟩:=h2;subst e;refine QG (RR:=λacc C=>compPost (model X.prog X.w) X.A X.xe (some (assign (.Name y py) X.env)) (λ_ s'=>SP X pins D .next s') acc C) I2 T st2 f2 hc O hx hjx hfx hC hE w0 turn λacc C s' H' ys m na I' hn oC nC fin=>?_;refine wpAny_assign_Name (Qk I' hN hiy hy (v:=.ref acc) rfl (λs8 I8 ⟨a,sb,ha⟩=>?_) hf);have neC:C≠a:=by
  rcases ha with z|z
  ·rw[z];exact oC.loc
  ·exact λq=>oC.cell _ _ z q.symm
 exact⟨m,hn.sameBut sb neC,λh'' sb'=>⟨_,_,I8.touch (tk:=s8.toks) nC oC sb',fin acc na⟩⟩
end
end L2
end
section
namespace L2
open PySem PySem.Spec PyProof.Rows
def NF(X:Cx)(a:Addr):Prop:=∀o u,X.H₀ a≠some (.frz o u)
theorem kV_of{P:Program}{w:World}{k:Key}{u:Value}(h:(ZO P w).is k u=true):RelV (kV k) u:=by
 rcases Yj (k:=k) (v:=u) h with ⟨i,t,rfl,rfl⟩|⟨x,t,rfl,rfl⟩
 ·exact⟨t,rfl⟩
 ·exact⟨t,rfl⟩
theorem KV.at{κ:Type}:∀{kvs:List (κ×V)} {vs:List (κ×Value)} {i:Nat} {k:κ} {v:V},KV kvs vs->kvs[i]?=some (k,v)->∃u,vs[i]?=some (k,u)/\RelV v u
 |_,_,0,_,_,.cons (b:=q) r _,e=>by
  simp at e;subst e;obtain⟨q1,q2⟩:=q;obtain⟨r1,r2⟩:=r;have r1':_=q1:=r1;subst r1';exact⟨q2,by simp,r2⟩
 |_,_,i+1,k,v,.cons _ t,e=>by
  obtain⟨u,h1,h2⟩:=KV.at (i:=i) (k:=k) (v:=v) t (by simpa using e);exact⟨u,by simpa using h1,h2⟩
 |_,_,_,_,_,.nil,e=>by simp at e
section
variable {X:Cx}{pins:List (Addr×Obj)}{σ:St}{H:Hp}{s:Shared}{a:Addr}{o:Obj}{kvs:List (Key×V)}{u:HO}
theorem Inv.notFrz(I:Inv X pins σ H s)(e:H a=some (.dK kvs)):NF X a:=λo u z=>by
 have q:=I.base.frzs a o u z;rw[e] at q;cases q
theorem Inv.freeze(I:Inv X pins σ H s)(e:H a=some (.dK kvs))(ho:s.heap.get? a=some o):Inv X pins σ (upd H a (.frz o (.dK kvs))) s:=
 have J:=I.write (x:=a) (e:=a) (o:=.frz o (.dK kvs)) (h':=s.heap) (t':=s.toks) (by rw[e];exact True.intro) (.inl rfl) (λ_ _ _ z=>z) ⟨o,ho⟩ ⟨ho,by
  have q:=I.hok a _ e;exact q⟩
 J
theorem Inv.thaw(I:Inv X pins σ H s)(e:H a=some (.frz o u))(n:NF X a)(hu:∀xs,u≠.tup xs)(hu2:∀y,u≠.own y):Inv X pins σ (upd H a u) s:=by
 have nt:∀b xs,H b=some (.tup xs)->b≠a:=λb xs q z=>by rw[z,e] at q;cases q
 have nw:∀b y,H b=some (.own y)->b≠a:=λb y q z=>by rw[z,e] at q;cases q
 have nn:∀b,H b=none->b≠a:=λb q z=>by rw[z,e] at q;cases q
 have nb:∀b ps,H b=some (.tbl ps)->b≠a:=λb ps q z=>by rw[z,e] at q;cases q
 refine⟨I.ok,I.os,I.bare,⟨I.base.keep,I.base.slot,λb o1 e1 z hx=>?_,I.base.there,λb xs q=>?_,λb o1 u1 q=>?_,λb ps q=>?_⟩,I.loc,I.cell,?_,λx c e1=>?_,λp hp=>?_,λb o1 q=>?_,I.len⟩
 ·have q:=I.base.free b o1 e1 z hx;rw[Zc (nn b q)];exact q
 ·have q':=I.base.tups b xs q;rw[Zc (nt b xs q')];exact q'
 ·have q':=I.base.frzs b o1 u1 q;by_cases hb:b=a
  ·subst hb;exact absurd q (n o1 u1)
  ·rw[Zc hb];exact q'
 ·obtain⟨m,q'⟩:=I.base.tbls b ps q;exact⟨m,by rw[Zc (nb b _ q')];exact q'⟩
 ·rw[Zc (nn _ I.free)];exact I.free
 ·rw[Zc (nn _ (I.freeC x c e1))];exact I.freeC x c e1
 ·obtain⟨z1,z2,z3⟩:=I.pin p hp;exact⟨z1,by rw[Zc (nn _ z2)];exact z2,z3⟩
 ·by_cases hb:b=a
  ·subst hb;rw[Zb] at q;cases q;obtain⟨_,q'⟩:=(show ObjOk X.prog X.w H s.heap b (.frz o u) from I.hok b _ e);exact q'.stay (λ_ _ _ z=>z) (λc z=>by rw[Zc (nw c b z)];exact z) λc xs z=>by rw[Zc (nt c xs z)];exact z
  ·rw[Zc hb] at q;exact(I.hok b o1 q).stay (λ_ _ _ z=>z) (λc z=>by rw[Zc (nw c b z)];exact z) λc xs z=>by rw[Zc (nt c xs z)];exact z
theorem Inv.known{ep:Nat}{es:Array DictEntry}(I:Inv X pins σ H s)(e:H a=some (.frz o (.dK kvs)))(hd:o.data= .dict es ep):∃vs,KV kvs vs/\s.heap.DictAt (ZO X.prog X.w) a vs ep:=by
 obtain⟨ho,_,_,vs,r,o',es',ep',ho',h1,h2,h3⟩:=(show ObjOk X.prog X.w H s.heap a (.frz o (.dK kvs)) from I.hok a _ e);rw[ho] at ho';cases ho';rw[hd] at h2;cases h2;exact⟨vs,r,o,es,ho,h1,hd,h3⟩
end
noncomputable def Itd(a:Addr)(o:Obj)(kvs:List (Key×V)):It:=⟨λi H=>i<kvs.length/\H a=some (.frz o (.dK kvs)),λi H x H'=>H'=H/\∃k v,kvs[i]?=some (k,v)/\x=kV k,λi H=>kvs.length<=i/\H a=some (.frz o (.dK kvs))⟩
noncomputable def Itv(a:Addr)(o:Obj)(kvs:List (Key×V)):It:=⟨λi H=>i<kvs.length/\H a=some (.frz o (.dK kvs)),λi H x H'=>H'=H/\∃k,kvs[i]?=some (k,x),λi H=>kvs.length<=i/\H a=some (.frz o (.dK kvs))⟩
theorem turn_dict{P:Program}{w:World}{K:W.Frag}{tg:Expr}{a it:Addr}{o:Obj}{kvs:List (Key×V)}{es:Array DictEntry}{ep:Nat}(hd:o.data= .dict es ep):Turn P w K tg (Itd a o kvs) [it] it (λi h=>h.IsKeyIter it a i kvs.length ep) where
 mem:=by simp
 obj:=λi h st b hb=>by
  have e:b=it:=by simpa using hb
  subst e;obtain⟨o,e,c,d⟩:=st;exact⟨o,e,λv z=>by rw[d] at z;cases z⟩
 keep:=λi h h' st k=>st.at λo e=>k it (by simp) o e
 item:=by
  intro X hP hw hK hc i pins s σ H E I hf st hg;subst hP hw hK;obtain⟨hi,he⟩:=hg;obtain⟨vs,rv,da⟩:=I.known he hd;obtain⟨⟨k,v⟩,hk⟩:∃p,kvs[i]?=some p:=⟨kvs[i],by simp[hi]⟩;obtain⟨u,hu,ru⟩:=KV.at rv hk;have hl:kvs.length=vs.length:=Paired.length rv;obtain⟨f0,f1,f2,f3,f4,f5⟩:=hf it (by simp);rw[hl] at st;refine wpAny_pyNext_dict_item st da hu λkey h' hkey st' sb=>?_;have I1:Inv X pins σ H {s with heap:=h'}:=I.turned (t':=s.toks) (λb ob hb e=>(sb.2 b hb).trans e) f0 f1 f3 f4 f5;obtain⟨oi,e,c,d⟩:=id st';rw[←hl] at st';exact⟨key,rfl,go_of (s:={s with heap:=h'}) e c d (by decide) ⟨kV k,H,I1,kV_of hkey,⟨rfl,k,v,hk,rfl⟩,st',λb hb=>(hf b hb).1⟩⟩
 done:=by
  intro X hP hw hK hc i pins s σ H E I hf st hg;subst hP hw hK;obtain⟨hi,he⟩:=hg;obtain⟨vs,rv,da⟩:=I.known he hd;have hl:kvs.length=vs.length:=Paired.length rv;obtain⟨f0,f1,f2,f3,f4,f5⟩:=hf it (by simp);rw[hl] at st;exact wpAny_pyNext_dict_end (I.ok.hd hc) st da (List.getElem?_eq_none_iff.mpr (by omega)) λh' eb=>⟨rfl,I.turned (t':=s.toks) (λb o hb e=>eb b o hb e) f0 f1 f3 f4 f5⟩
 self:=λ_ _ _ _ _ st h=>wpAny_pyIter_keyiter st h
theorem turn_vals{P:Program}{w:World}{K:W.Frag}{tg:Expr}{a it:Addr}{o:Obj}{kvs:List (Key×V)}{es:Array DictEntry}{ep:Nat}(hd:o.data= .dict es ep):Turn P w K tg (Itv a o kvs) [it] it (λi h=>h.IsValIter it a i kvs.length ep) where
 mem:=by simp
 obj:=λi h st b hb=>by
  have e:b=it:=by simpa using hb
  subst e;obtain⟨o,e,c,d⟩:=st;exact⟨o,e,λv z=>by rw[d] at z;cases z⟩
 keep:=λi h h' st k=>st.at λo e=>k it (by simp) o e
 item:=by
  intro X hP hw hK hc i pins s σ H E I hf st hg;subst hP hw hK;obtain⟨hi,he⟩:=hg;obtain⟨vs,rv,da⟩:=I.known he hd;obtain⟨⟨k,v⟩,hk⟩:∃p,kvs[i]?=some p:=⟨kvs[i],by simp[hi]⟩;obtain⟨u,hu,ru⟩:=KV.at rv hk;have hl:kvs.length=vs.length:=Paired.length rv;obtain⟨f0,f1,f2,f3,f4,f5⟩:=hf it (by simp);rw[hl] at st;refine wpAny_pyNext_values_item st da hu λh' st' sb=>?_;have I1:Inv X pins σ H {s with heap:=h'}:=I.turned (t':=s.toks) (λb ob hb e=>(sb.2 b hb).trans e) f0 f1 f3 f4 f5;obtain⟨oi,e,c,d⟩:=id st';rw[←hl] at st';exact⟨u,rfl,go_of (s:={s with heap:=h'}) e c d (by decide) ⟨v,H,I1,ru,⟨rfl,k,hk⟩,st',λb hb=>(hf b hb).1⟩⟩
 done:=by
  intro X hP hw hK hc i pins s σ H E I hf st hg;subst hP hw hK;obtain⟨hi,he⟩:=hg;obtain⟨vs,rv,da⟩:=I.known he hd;have hl:kvs.length=vs.length:=Paired.length rv;obtain⟨f0,f1,f2,f3,f4,f5⟩:=hf it (by simp);rw[hl] at st;exact wpAny_pyNext_values_end (I.ok.hd hc) st da (List.getElem?_eq_none_iff.mpr (by omega)) λh' eb=>⟨rfl,I.turned (t':=s.toks) (λb o hb e=>eb b o hb e) f0 f1 f3 f4 f5⟩
 self:=λ_ _ _ _ _ st h=>wpAny_pyIter_valiter st h
noncomputable def VC(v d:Addr):HO:=.ext λh=>h.IsValuesView v d
section
variable {X:Cx}{tg:Expr}
def iDict(X:Cx)(tl:TE):TI:=λσ H R=>tl σ H λx H1=>∃a kvs,x= .ref a/\H1 a=some (.dK kvs)/\∀o,NF X a->R (Itd a o kvs) (upd H1 a (.frz o (.dK kvs)))
def iVals(X:Cx)(tl:TE):TI:=λσ H R=>tl σ H λx H1=>∃v a kvs,x= .ref v/\H1 v=some (VC v a)/\H1 a=some (.dK kvs)/\∀o,NF X a->R (Itv a o kvs) (upd H1 a (.frz o (.dK kvs)))
theorem Tz{l:Expr}{tl:TE}(hl:PE X l tl):PI X tg l (iDict X tl):=by
 intro pins s σ H R I h;refine thn (hl pins s σ H _ I h) λv s1 ⟨x,H1,I1,r1,q1⟩=>?_;obtain⟨a,kvs,e,ha,q⟩:=q1;subst e;cases r1;obtain⟨z,hd,vs,rv,dd⟩:=RT I1.hok ha;have hlen:kvs.length=vs.length:=Paired.length rv;obtain⟨o,es,ep,ho,hr⟩:=id dd;have da:s1.heap.DictAt (ZO X.prog X.w) a vs ep:=⟨o,es,ho,hr⟩;refine wpAny_pyIter_dict hd da ?_;have I2:=I1.freeze ha ho;refine⟨s1.heap.objs.size,[s1.heap.objs.size],_,_,_,rfl,I2.kept (t':=s1.toks) λb o e=>Heap.get?_push_of_some _ e,turn_dict (o:=o) (kvs:=kvs) hr.2.1,⟨_,Heap.get?_push_size _ rfl,rfl,by rw[hlen];rfl⟩,λb hb=>?_,q o (I1.notFrz ha)⟩;have e:b=s1.heap.objs.size:=by simpa using hb
 subst e;exact I1.fpOk (Nat.le_refl _) (by rw[Zc (λz=>Nat.lt_irrefl _ (z▸Heap.lt_size ho))];exact I1.hok.fresh (Nat.le_refl _))
theorem Pf{l:Expr}{tl:TE}(hl:PE X l tl):PI X tg l (iVals X tl):=by
 intro pins s σ H R I h;refine thn (hl pins s σ H _ I h) λv s1 ⟨x,H1,I1,r1,q1⟩=>?_;obtain⟨w,a,kvs,e,hw,ha,q⟩:=q1;subst e;cases r1;obtain⟨z,hd,vs,rv,dd⟩:=RT I1.hok ha;have hlen:kvs.length=vs.length:=Paired.length rv;obtain⟨o,es,ep,ho,hr⟩:=id dd;have da:s1.heap.DictAt (ZO X.prog X.w) a vs ep:=⟨o,es,ho,hr⟩;have hv:s1.heap.IsValuesView w a:=(show ObjOk X.prog X.w H1 s1.heap w (VC w a) from I1.hok w _ hw).1;refine wpAny_pyIter_values hv da ?_;have I2:=I1.freeze ha ho;refine⟨s1.heap.objs.size,[s1.heap.objs.size],_,_,_,rfl,I2.kept (t':=s1.toks) λb o e=>Heap.get?_push_of_some _ e,turn_vals (o:=o) (kvs:=kvs) hr.2.1,⟨_,Heap.get?_push_size _ rfl,rfl,by rw[hlen];rfl⟩,λb hb=>?_,q o (I1.notFrz ha)⟩;have e:b=s1.heap.objs.size:=by simpa using hb
 subst e;exact I1.fpOk (Nat.le_refl _) (by rw[Zc (λz=>Nat.lt_irrefl _ (z▸Heap.lt_size ho))];exact I1.hok.fresh (Nat.le_refl _))
def rVals:V->List V->Hp->VK->Prop:=λx xs H Q=>∃a kvs,x= .ref a/\xs=[]/\H a=some (.dK kvs)/\∀v,H v=none->Q (.ref v) (upd H v (VC v a))
theorem Py:MtR X "dict.values" rVals:=by
 intro pins s σ H x xs v us Q I rx rs h;obtain⟨a,kvs,rfl,rfl,ha,q⟩:=h;cases rx;cases rs;obtain⟨z,hd,vs,rv,dd⟩:=RT I.hok ha;refine call_meetsIn F.slot_dict_values dd.typeIs F.entry_dict_values (F.args_dict_values_1 _) (meets_dict_values (ZO X.prog X.w) a hd) ⟨⟨vs,dd⟩,?_⟩;refine⟨.ref s.heap.objs.size,_,I.laid (o:=VC s.heap.objs.size a) (t':=s.toks) (λb u e=>Heap.get?_push_of_some _ e) (Nat.le_refl _) ⟨⟨_,Heap.get?_push_size _ rfl,rfl,rfl⟩,⟨_,Heap.get?_push_size _ rfl⟩,λg1 g2 p k=>?_⟩,rfl,q _ (I.hok.fresh (Nat.le_refl _))⟩;obtain⟨o,e,c⟩:=p;exact⟨o,k o e,c⟩
def Thaw(X:Cx)(N:Hp->Prop):Hp->Prop:=λH=>∃a o kvs,NF X a/\H a=some (.frz o (.dK kvs))/\N (upd H a (.dK kvs))
def Ends.thaw(X:Cx)(D:Ends):Ends:={nx:=λσ H=>Thaw X (D.nx σ) H,rt:=λv H=>Thaw X (D.rt v) H,bk:=λσ H=>Thaw X (D.bk σ) H,ct:=λσ H=>Thaw X (D.ct σ) H}
theorem SP.thaw{pins:List (Addr×Obj)}{D:Ends}{f:Flow}{s:Shared}(h:SP X pins (D.thaw X) f s):SP X pins D f s:=by
 cases f with
 |next=>
  obtain⟨σ,H,I,a,o,kvs,n,e,q⟩:=h;exact⟨σ,_,I.thaw e n (λ_ z=>nomatch z) (λ_ z=>nomatch z),q⟩
 |brk=>
  obtain⟨σ,H,I,a,o,kvs,n,e,q⟩:=h;exact⟨σ,_,I.thaw e n (λ_ z=>nomatch z) (λ_ z=>nomatch z),q⟩
 |cont=>
  obtain⟨σ,H,I,a,o,kvs,n,e,q⟩:=h;exact⟨σ,_,I.thaw e n (λ_ z=>nomatch z) (λ_ z=>nomatch z),q⟩
 |ret v=>
  obtain⟨x,σ,H,I,r,a,o,kvs,n,e,q⟩:=h;exact⟨x,σ,_,I.thaw e n (λ_ z=>nomatch z) (λ_ z=>nomatch z),r,q⟩
theorem UQ{st:Stmt}{t:TS}(h:PS X st t):PS X st (λD=>t (D.thaw X)):=λpins s σ H D I hw=>thn (h pins s σ H _ I hw) λf s' q=>q.thaw
theorem pe_thaw{e:Expr}{t:TE}(h:PE X e t):PE X e (λσ H Q=>t σ H λv H'=>Thaw X (Q v) H'):=λpins s σ H Q I hw=>thn (h pins s σ H _ I hw) λu s' ⟨v,H',I',r,a,o,kvs,n,e,q⟩=>
 ⟨v,_,I'.thaw e n (λ_ z=>nomatch z) (λ_ z=>nomatch z),r,q⟩
end
end L2
end
section
namespace L2
open PySem PySem.Spec PyProof.Rows
mutual
inductive Den(K:W.Frag)(H:Hp):V->PyData->Prop
 |non:Den K H .non .none
 |bl (b:Bool):Den K H (.bl b) (.bool b)
 |int (i:Int):Den K H (.int i) (.int i)
 |str (x:Str):Den K H (.str x) (.str x)
 |tup {a:Addr} {xs:List V} {ds:List PyData}:SqT K H a xs->DenL K H xs ds->Den K H (.ref a) (.tuple ds)
 |lst {a:Addr} {xs:List V} {ds:List PyData}:SqL K H a xs->DenL K H xs ds->Den K H (.ref a) (.list ds)
inductive DenL(K:W.Frag)(H:Hp):List V->List PyData->Prop
 |nil:DenL K H [] []
 |cons {x:V} {xs:List V} {d:PyData} {ds:List PyData}:Den K H x d->DenL K H xs ds->DenL K H (x::xs) (d::ds)
end
section
variable {X:Cx}{pins:List (Addr×Obj)}{σ:St}{H:Hp}{s:Shared}
mutual
theorem Den.reads(I:Inv X pins σ H s):∀{x:V} {d:PyData} {u:Value},Den X.K H x d->RelV x u->∃as,Reads s.heap u d as
 |_,_,_,.non,r=>by cases r;exact⟨_,.none⟩
 |_,_,_,.bl b,r=>by cases r;exact⟨_,.bool b⟩
 |_,_,_,.int i,r=>by obtain⟨t,rfl⟩:=r;exact⟨_,.int i t⟩
 |_,_,_,.str x,r=>by obtain⟨t,rfl⟩:=r;exact⟨_,.str x t⟩
 |_,_,_,.tup hq hl,r=>by
  cases r;obtain⟨its,rv,⟨o,ho,hc,n,hd⟩,hz⟩:=I.tuple hq;obtain⟨as,q⟩:=DenL.reads I hl rv;exact⟨_,.tuple ho hc hd (by simpa using q)⟩
 |_,_,_,.lst hq hl,r=>by
  cases r;obtain⟨its,rv,⟨o,n,ho,hc,_,hd⟩,hz⟩:=I.list hq;obtain⟨as,q⟩:=DenL.reads I hl rv;exact⟨_,.list ho hc hd (by simpa using q)⟩
theorem DenL.reads(I:Inv X pins σ H s):∀{xs:List V} {ds:List PyData} {us:List Value},DenL X.K H xs ds->Vals xs us->∃as,ReadsAll s.heap us ds as
 |_,_,_,.nil,r=>by cases r;exact⟨_,.nil⟩
 |_,_,_,.cons hd hl,r=>by
  cases r with
  |cons r1 r2=>
   obtain⟨as,q⟩:=Den.reads I hd r1;obtain⟨bs,p⟩:=DenL.reads I hl r2;exact⟨_,.cons q p⟩
end
end
section
variable {X:Cx}
def rEqD(K:W.Frag):R2:=λx y H Q=>∃d e,Den K H x d/\Den K H y e/\SeqAt.shaped d=true/\SeqAt.shaped e=true/\Q (.bl (PyData.eqv d e)) H
def rNeD(K:W.Frag):R2:=λx y H Q=>∃d e,Den K H x d/\Den K H y e/\SeqAt.shaped d=true/\SeqAt.shaped e=true/\Q (.bl (!PyData.eqv d e)) H
theorem op_eqD(hu:X.A.units+64<cLine):OpR X (compareOp .Eq) (rEqD X.K):=by
 intro pins s σ H x y v u Q I rx ry h;obtain⟨d,e,hd,he,sd,se,q⟩:=h;obtain⟨as,ra⟩:=hd.reads I rx;obtain⟨bs,rb⟩:=he.reads I ry;exact eq_dataH ra rb sd se hu ⟨.bl _,H,I,rfl,q⟩
theorem op_neD(hu:X.A.units+64<cLine):OpR X (compareOp .NotEq) (rNeD X.K):=by
 intro pins s σ H x y v u Q I rx ry h;obtain⟨d,e,hd,he,sd,se,q⟩:=h;obtain⟨as,ra⟩:=hd.reads I rx;obtain⟨bs,rb⟩:=he.reads I ry;exact ne_dataH ra rb sd se hu ⟨.bl _,H,I,rfl,q⟩
end
mutual
theorem eqv_refl:∀d:PyData,d.canLay0=true->PyData.eqv d d=true
 | .none,_=>by simp[PyData.eqv]
 | .bool b,_=>by simp[PyData.eqv]
 | .int i,_=>by simp[PyData.eqv]
 | .str x,_=>by simp[PyData.eqv]
 | .list ds,h=>by
  rw[PyData.eqv];exact UE ds (by simpa[PyData.canLay0] using h)
 | .tuple ds,h=>by
  rw[PyData.eqv];exact UE ds (by simpa[PyData.canLay0] using h)
 | .dict _,h=>by simp[PyData.canLay0] at h
theorem UE:∀ds:List PyData,PyData.canLayAll0 ds=true->PyData.eqvAll ds ds=true
 |[],_=>by simp[PyData.eqvAll]
 |d::ds,h=>by
  have h':d.canLay0=true/\PyData.canLayAll0 ds=true:=by simpa[PyData.canLayAll0] using h
  rw[PyData.eqvAll,eqv_refl d h'.1,UE ds h'.2];rfl
end
theorem TW{d:PyData}(h:SeqAt.shaped d=true):PyData.eqv d d=true:=eqv_refl d (SeqAt.canLay_of_shaped h)
section
variable {X:Cx}
noncomputable def clsV:V->Option Value
 | .ref a=>some (.ref a)
 | .ty n=>some (.type n)
 |_=>none
theorem clsV_rel{c:V}{cv u:Value}(h:clsV c=some cv)(r:RelV c u):u=cv:=by
 cases c with
 |ref a=>cases (Option.some.inj h);exact r
 |ty n=>cases (Option.some.inj h);exact r
 |_=>cases h
def rIsi(K:W.Frag):List V->Hp->VK->Prop:=λxs H Q=>∃x t c cv b,xs=[x,c]/\TyOf K H x t/\clsV c=some cv/\W.kitOne K t cv=some b/\Q (.bl b) H
theorem UI:VB X (.builtin "isinstance") (rIsi X.K):=by
 intro pins s σ H xs us Q I r h;obtain⟨x,t,c,cv,b,rfl,ty,rc,e,q⟩:=h;obtain⟨u,u',rfl,ru,ru'⟩:=vals2 r;cases clsV_rel rc ru';exact isinst_ok I ru ty e λtk=>⟨.bl b,H,I.tok _,rfl,q⟩
end
section
variable {X:Cx}
end
end L2
end
section
namespace L2
open PySem PySem.Spec PyProof.Rows
section
variable {X:Cx}
def CDivB(i j:Int):Prop:=0<j/\j<2 ^ 200
theorem ZI:OpR X (binaryOp .FloorDiv) (rI CDivB λi j=>.int (i/j)):=opI λi j _ _ _ _ _ hc q=>by
 have h0:0<=j:=Int.le_of_lt hc.1;refine floordiv_int (by have:=hc.1;omega) ?_ (.inl (PyProof.noPylong_of_log2 ?_))
 ·rw[Int.fdiv_eq_ediv_of_nonneg _ h0];exact q
 ·by_cases hz:j.natAbs=0
  ·rw[hz];decide
  ·have h1:j.natAbs<2 ^ 200:=by
    have:=hc.2;omega
   exact Nat.lt_trans ((Nat.log2_lt hz).mpr h1) (by decide)
end
theorem Rc{ns:List Int}{k:Nat}(h:k<ns.length):ns.getD k 0=ns[k]:=by simp[List.getD,h]
theorem Vn{β:Type}(f:Nat->β)(le:β->β->Prop)(bt:Nat->Nat->Bool)(refl:∀x,le x x)(tr:∀x y z,le x y->le y z->le x z)(h1:∀i j,bt i j=true->le (f i) (f j))(h2:∀i j,bt i j=false->le (f j) (f i)):
  ∀k,argBest bt k<=k/\∀i,i<=k->le (f (argBest bt k)) (f i)
 |0=>⟨Nat.le_refl _,λi hi=>by
   have e:i=0:=Nat.le_zero.mp hi;subst e;exact refl _⟩
 |k+1=>by
  obtain⟨a,b⟩:=Vn f le bt refl tr h1 h2 k;rw[argBest];cases e:bt (k+1) (argBest bt k) with
  |true=>
   rw[if_pos rfl];refine⟨Nat.le_refl _,λi hi=>?_⟩;rcases Nat.lt_or_ge i (k+1) with q|q
   ·exact tr _ _ _ (h1 _ _ e) (b i (Nat.lt_succ_iff.mp q))
   ·have e':i=k+1:=Nat.le_antisymm hi q;rw[e'];exact refl _
  |false=>
   rw[if_neg Bool.false_ne_true];refine⟨Nat.le_succ_of_le a,λi hi=>?_⟩;rcases Nat.lt_or_ge i (k+1) with q|q
   ·exact b i (Nat.lt_succ_iff.mp q)
   ·have e':i=k+1:=Nat.le_antisymm hi q;rw[e'];exact h2 _ _ e
section
variable {prog:Program}{w:World}{A:Around}{R:Result->Shared->Prop}{I S:Addr}{fp wr:List Addr}{n:Nat}{P:Nat->Value->Prop}{St:Nat->Heap->Prop}{bt:Nat->Nat->Bool}{Gd:Heap->Prop}
def CmpG(prog:Program)(w:World)(A:Around)(P:Nat->Value->Prop)(Gd:Heap->Prop)(bt:Nat->Nat->Bool):Prop:=
 ∀i j vi vj (s:Shared) (Q:Value->Shared->Prop) (E:Value->Shared->Prop),Gd s.heap->P i vi->P j vj->Q (.bool (bt i j)) s->wpAny (model prog w) A (richCompare .Lt vi vj) Q E s
theorem Qw{kw:List (Str×Value)}(W:Walks prog w A.in1 I fp wr n P St)(hcmp:CmpG prog w A.in1 P Gd bt)(stay:∀h h':Heap,Gd h->(∀b o,b∉wr->b≠S->h.get? b=some o->h'.get? b=some o)->Gd h')(hSf:S∉fp):
  ∀(k j:Nat) (s:Shared) (vb:Value) (c:Nat),n-(j+1)=k->j+1<=n->St (j+1) s.heap->Gd s.heap->P (argBest bt j) vb->s.heap.get? S=some {cls:=.type "list",data:=.seq #[vb,vb] c}->
  (∀v h' tk,P (argBest bt (n-1)) v->(∀b o,b∉wr->b≠S->s.heap.get? b=some o->h'.get? b=some o)->R (.ok (.ret v)) {s with heap:=h',toks:=tk})->
  codeAny (model prog w) A (.builtin "min.loop" ⟨[.ref I,.none,.ref S],kw⟩) R s:=by
 have nw:S∉wr:=λz=>hSf (W.sub _ z);have nm:(toString "min"++toString ".loop":String)="min.loop":=by decide
 have off:∀(h:Heap) (g:Obj->Obj) (b:Addr) (o:Obj),b≠S->h.get? b=some o->(h.update S g).get? b=some o:=λh g b o z e=>(Heap.get?_update_other _ _ (Ne.symm z)).trans e;intro k;induction k with
 |zero=>
  intro j s vb c ek ej hst hg pb hS fin;have en:j+1=n:=by omega
  refine codeAny_builtin F.entry_min_loop ?_;rw[Around.under_plainId F.plain_min_loop _];show wpAny _ A.in1 (seqItems? (.ref S) >>= _) _ _ s;refine wpAny_bind (wpAny_seqItems hS rfl ?_);show wpAny _ A.in1 (tryCatch (pyNext (.ref I)) _ >>= _) _ _ s;refine wpAny_bind (wpAny_tryCatch (W.done s _ _ (en▸hst) λh1 tk1 k1=>?_));have hS1:=k1 S _ nw hS;show wpAny _ A.in1 (updateSeq S (λ_=> #[]) >>= _) _ _ _;refine wpAny_bind ?_;refine wpAny_updateSeq hS1 rfl (wpAny_bind (wpAny_letGo (wpAny_pure ?_)));exact fin vb _ tk1 (by rw[←en];exact pb) λb o z1 z2 e=>off _ _ b o z2 (k1 b o z1 e)
 |succ k ih=>
  intro j s vb c ek ej hst hg pb hS fin;have lt:j+1<n:=by omega
  refine codeAny_builtin F.entry_min_loop ?_;rw[Around.under_plainId F.plain_min_loop _];show wpAny _ A.in1 (seqItems? (.ref S) >>= _) _ _ s;refine wpAny_bind (wpAny_seqItems hS rfl ?_);show wpAny _ A.in1 (tryCatch (pyNext (.ref I)) _ >>= _) _ _ s;refine wpAny_bind (wpAny_tryCatch (W.item (j+1) s _ _ lt hst λv h1 tk1 pv st1 k1=>?_));have hS1:=k1 S _ nw hS;have hg1:Gd h1:=stay _ _ hg λb o z1 _ e=>k1 b o z1 e;show wpAny _ A.in1 (tryCatch (holding [v,v] (richCompare .Lt v vb >>= _)) _ >>= _) _ _ _;refine wpAny_bind (wpAny_tryCatch (wpAny_holding (wpAny_bind (hcmp (j+1) (argBest bt j) v vb _ _ _ hg1 pv pb ?_))));refine wpAny_bind (wpAny_holding (wpAny_truthy_bool ?_));refine wpAny_bind (wpAny_letGo (wpAny_pure ?_));cases hb:bt (j+1) (argBest bt j) with
  |true=>
   simp only[if_true];refine wpAny_bind ?_;refine wpAny_updateSeq hS1 rfl (wpAny_bind (wpAny_letGo ?_));rw[nm];refine wpAny_pure ⟨plainId_quiet F.plain_min_loop _,ih (j+1) _ v _ (by omega) lt (W.frame _ _ _ st1 λb z o e=>off _ _ b o (λq=>hSf (q▸z)) e) (stay _ _ hg1 λb o _ z e=>off _ _ b o z e) (by simp only[argBest,hb,if_true];exact pv) (Heap.get?_update_self _ hS1 rfl) λv' h2 tk2 p2 k2=>?_⟩;exact fin v' h2 tk2 p2 λb o z1 z2 e=>k2 b o z1 z2 (off _ _ b o z2 (k1 b o z1 e))
  |false=>
   simp only[Bool.false_eq_true,if_false];refine wpAny_bind (wpAny_letGo ?_);rw[nm];refine wpAny_pure ⟨plainId_quiet F.plain_min_loop _,ih (j+1) _ vb c (by omega) lt st1 hg1 (by simp only[argBest,hb,Bool.false_eq_true,if_false];exact pb) hS1 λv' h2 tk2 p2 k2=>?_⟩;exact fin v' h2 tk2 p2 λb o z1 z2 e=>k2 b o z1 z2 (k1 b o z1 e)
end
section
variable {prog:Program}{w:World}{A:Around}{E:Value->Shared->Prop}{s:Shared}
theorem Qx{l:Addr}{its:Array Value}{Gd:Heap->Prop}{bt:Nat->Nat->Bool}{Q:Value->Shared->Prop}(hh:A.handled=none)(hl:s.heap.IsList l its)(hn:0<its.size)
 (hcmp:CmpG prog w A.in1 (λi v=>its[i]?=some v) Gd bt)(hg:Gd s.heap)(stay:∀h h':Heap,Gd h->(∀b o,b<s.heap.objs.size->h.get? b=some o->h'.get? b=some o)->Gd h')
 (hQ:∀v h' tk,its[argBest bt (its.size-1)]?=some v->(∀b o,s.heap.get? b=some o->h'.get? b=some o)->Q v {s with heap:=h',toks:=tk}):
  wpAny (model prog w) A (call (.builtin "min") [.ref l]) Q E s:=by
 have nm:(toString "min"++toString ".loop":String)="min.loop":=by decide
 have hlt:l<s.heap.objs.size:=by obtain⟨_,e,_⟩:=hl;exact Heap.lt_size e
 refine call_function_tree F.kind_min F.plain_min F.entry_min (F.args_min1 _) ?_;show wpAny _ A.in1 (Builtin.Builtins.bindParams "min" ["key","default"] 0 ⟨[],[]⟩ >>= _) _ _ s;refine wpAny_bind (wpAny_of_eq (show Builtin.Builtins.bindParams "min" ["key","default"] 0 ⟨[],[]⟩=pure [none,none] from rfl) ?_);refine wpAny_bind (wpAny_pure ?_);refine wpAny_bind (wpAny_pyIter_list hl ?_);refine wpAny_bind (wpAny_newObj_type ?_);rw[nm];refine wpAny_pure ⟨plainId_quiet F.plain_min_loop _,?_⟩;generalize hh1:s.heap.push {cls:=.type "list_iterator",data:=.fields #[.ref l,.int 0 0]}=h1;have sz1:h1.objs.size=s.heap.objs.size+1:=by rw[←hh1,Heap.size_push]
 have W:=Walks.list (prog:=prog) (w:=w) (A:=A.in1) hh s.heap.objs.size l (Nat.ne_of_lt hlt) its;have hSf:h1.objs.size∉[s.heap.objs.size,l]:=by
  intro m;rcases List.mem_cons.mp m with z|m
  ·omega
  ·have z:h1.objs.size=l:=List.mem_singleton.mp m;have q:l<h1.objs.size:=by rw[sz1];exact Nat.lt_succ_of_lt hlt
   rw[z] at q;exact Nat.lt_irrefl _ q
 have nw:h1.objs.size∉[s.heap.objs.size]:=λm=>hSf (W.sub _ m);have keep0:∀b o,s.heap.get? b=some o->(h1.push {cls:=.type "list",data:=.seq ([]:List Value).toArray}).get? b=some o:=λb o e=>Heap.get?_push_of_some _ (by rw[←hh1];exact Heap.get?_push_of_some _ e);have st0:(h1.push {cls:=.type "list",data:=.seq ([]:List Value).toArray}).IsListIter s.heap.objs.size l 0/\(h1.push {cls:=.type "list",data:=.seq ([]:List Value).toArray}).IsList l its:=by
  refine⟨⟨_,Heap.get?_push_of_some _ (by rw[←hh1];exact Heap.get?_push_size _ rfl),rfl,rfl⟩,?_⟩;obtain⟨o,e,r⟩:=hl;exact⟨o,keep0 l o e,r⟩
 have old:∀b,b<s.heap.objs.size->b∉[s.heap.objs.size]/\b≠h1.objs.size:=λb z=>⟨λm=>by have:=List.mem_singleton.mp m;omega,by omega⟩;refine codeAny_builtin F.entry_min_loop ?_;rw[Around.under_plainId F.plain_min_loop _];show wpAny _ A.in1 (seqItems? (.ref h1.objs.size) >>= _) _ _ _;refine wpAny_bind (wpAny_seqItems (Heap.get?_push_size _ rfl) rfl ?_);show wpAny _ A.in1 (tryCatch (pyNext (.ref s.heap.objs.size)) _ >>= _) _ _ _;refine wpAny_bind (wpAny_tryCatch (W.item 0 _ _ _ hn st0 λv h2 tk2 pv st2 k2=>?_));have hS2:=k2 h1.objs.size _ nw (Heap.get?_push_size _ rfl);show wpAny _ A.in1 (updateSeq h1.objs.size (λ_=> #[v,v]) >>= _) _ _ _;refine wpAny_bind ?_;refine wpAny_updateSeq hS2 rfl ?_;rw[nm];have off:∀(h:Heap) (g:Obj->Obj) (b:Addr) (o:Obj),b≠h1.objs.size->h.get? b=some o->(h.update h1.objs.size g).get? b=some o:=λh g b o z e=>(Heap.get?_update_other _ _ (Ne.symm z)).trans e;have stay':∀h h':Heap,Gd h->(∀b o,b∉[s.heap.objs.size]->b≠h1.objs.size->h.get? b=some o->h'.get? b=some o)->Gd h':=λh h' g k=>stay h h' g λb o z e=>k b o (old b z).1 (old b z).2 e;have hg2:Gd h2:=stay _ _ hg λb o z e=>k2 b o (old b z).1 (keep0 b o e);refine wpAny_pure ⟨plainId_quiet F.plain_min_loop _,Qw (S:=h1.objs.size) W hcmp stay' hSf _ 0 _ v _ rfl hn (W.frame _ _ _ st2 λb z o e=>off _ _ b o (λq=>hSf (q▸z)) e) (stay' _ _ hg2 λb o _ z e=>off _ _ b o z e) pv (Heap.get?_update_self _ hS2 rfl) λv' h3 tk3 p3 k3=>?_⟩;exact hQ v' h3 tk3 p3 λb o e=>k3 b o (old b (Heap.lt_size e)).1 (old b (Heap.lt_size e)).2 (off _ _ b o (old b (Heap.lt_size e)).2 (k2 b o (old b (Heap.lt_size e)).1 (keep0 b o e)))
end
section
variable {X:Cx}
def rMinI(K:W.Frag):List V->Hp->VK->Prop:=λxs H Q=>∃a ns,xs=[.ref a]/\SqL K H a (ns.map V.int)/\ns≠[]/\∀m:Int,m∈ns->(∀x∈ns,m<=x)->Q (.int m) H
theorem call_minI(hc:X.calm=true):VB X (.builtin "min") (rMinI X.K):=by
 intro pins s σ H xs us Q I r h;obtain⟨a,ns,rfl,hq,hne,k⟩:=h;obtain⟨u,rfl,ru⟩:=VQ r;cases ru;obtain⟨its,rv,pl,hz⟩:=I.list hq;have e1:=rv.length;rw[List.length_map] at e1;have at_:∀(i:Nat) v,its.toArray[i]?=some v->∃t,v= .int (ns.getD i 0) t:=λi v e=>by
  have e':its[i]?=some v:=by simpa using e
  have hi:i<its.length:=(List.getElem?_eq_some_iff.mp e').1;have hi':i<ns.length:=by omega
  obtain⟨u,hu,t,ht⟩:=rv.get (i:=i) (x:=V.int ns[i]) (by simp[hi']);rw[e'] at hu;cases hu;exact⟨t,by rw[ht];simp[List.getD,hi']⟩
 have hlen:0<ns.length:=List.length_pos_iff.mpr hne;refine Qx (Gd:=λ_=>True) (bt:=λi j=>decide (ns.getD i 0<ns.getD j 0)) (I.ok.hd hc) pl.isList (by simp;omega) (λi j vi vj s' Q' E' _ hi hj q=>?_) True.intro (λ_ _ _ _=>True.intro) λv h' tk hv kk=>?_
 ·obtain⟨t,rfl⟩:=at_ i vi hi;obtain⟨t',rfl⟩:=at_ j vj hj;exact HT.rcLt_int X.A.in1 s' _ t _ t' X.prog X.w E' Q' q
 ·obtain⟨t,rfl⟩:=at_ _ v hv;obtain⟨b1,b2⟩:=Vn (λi=>ns.getD i 0) (·<=·) (λi j=>decide (ns.getD i 0<ns.getD j 0)) (λ_=>Int.le_refl _) (λ_ _ _=>Int.le_trans) (λi j z=>Int.le_of_lt (of_decide_eq_true z)) (λi j z=>Int.not_lt.mp (of_decide_eq_false z)) (its.toArray.size-1);have hb:argBest (λi j=>decide (ns.getD i 0<ns.getD j 0)) (its.toArray.size-1)<ns.length:=by
   have:its.toArray.size=ns.length:=by simp;omega
   omega
  refine⟨.int _,H,I.kept kk,⟨t,rfl⟩,k _ ?_ λx hx=>?_⟩
  ·rw[Rc hb];exact List.getElem_mem hb
  ·obtain⟨i,hi,rfl⟩:=List.mem_iff_getElem.mp hx;have z:=b2 i (by have:its.toArray.size=ns.length:=(by simp;omega);omega);have z':ns.getD (argBest (λi j=>decide (ns.getD i 0<ns.getD j 0)) (its.toArray.size-1)) 0<=ns.getD i 0:=z;rw[Rc hi] at z';exact z'
end
end L2
end
section
namespace L2
open PySem PySem.Spec PyProof.Rows
noncomputable def Xo(cells:List (Str×Addr)):List (Str×NameKind)->List (Str×Addr)->List (Str×Addr)
 |[],cs=>cs
 |(n,k)::r,cs=>Xo cells r (if k= .free then (n,(cells.lookup n).getD 0)::cs else cs)
theorem Qg{scope:Scope}{env:Env}(h:∀y∈scope.names,y.2= .free->∃c,env.cells.lookup y.1=some c):closureFor scope env=pure (Xo env.cells scope.names []):=by
 have all:∀(l:List (Str×NameKind)) (cs:List (Str×Addr)),(∀y∈l,y.2= .free->∃c,env.cells.lookup y.1=some c)->
   (forIn l cs λ(x:Str×NameKind) (r:List (Str×Addr))=>(if (x.2==NameKind.free)=true then do let a←cellOf env x.1;pure (ForInStep.yield ((x.1,a)::r)) else pure (ForInStep.yield r):Sem (ForInStep (List (Str×Addr)))))=pure (Xo env.cells l cs):=by
  intro l;induction l with
  |nil=>intro cs _;rfl
  |cons y r ih=>
   intro cs hl;obtain⟨n,k⟩:=y;rw[List.forIn_cons];by_cases hk:k= .free
   ·obtain⟨c,hc⟩:=hl (n,k) List.mem_cons_self hk;subst hk;have e1:cellOf env n=pure c:=by
     unfold cellOf;rw[hc]
    have z:=ih ((n,c)::cs) λy hy=>hl y (List.mem_cons_of_mem _ hy);simp only[beq_self_eq_true,if_true,e1,pure_bind,Xo,hc,Option.getD_some];exact z
   ·have z:=ih cs λy hy=>hl y (List.mem_cons_of_mem _ hy);have hb:(k==NameKind.free)=false:=by simpa using hk
    simp only[hb,Bool.false_eq_true,if_false,pure_bind,Xo,hk];exact z
 unfold closureFor;have z:=all scope.names [] h;simpa using z
theorem UH(cells:List (Str×Addr)):∀(l:List (Str×NameKind)) (cs:List (Str×Addr)) (x:Str),(x,NameKind.free)∉l->(Xo cells l cs).lookup x=cs.lookup x
 |[],_,_,_=>rfl
 |(n,k)::r,cs,x,h=>by
  rw[Xo,UH cells r _ x λm=>h (List.mem_cons_of_mem _ m)];by_cases hk:k= .free
  ·subst hk;rw[if_pos rfl];have ne:x≠n:=λe=>h (by rw[e];exact List.mem_cons_self);rw[List.lookup_cons];have:(x==n)=false:=by simpa using ne
   rw[this]
  ·rw[if_neg hk]
theorem Um(cells:List (Str×Addr)):∀(l:List (Str×NameKind)) (cs:List (Str×Addr)) (x:Str),(x,NameKind.free)∈l->(Xo cells l cs).lookup x=some ((cells.lookup x).getD 0)
 |(n,k)::r,cs,x,h=>by
  rw[Xo];by_cases hr:(x,NameKind.free)∈r
  ·exact Um cells r _ x hr
  ·have e:(x,NameKind.free)=(n,k):=(List.mem_cons.mp h).resolve_right hr;cases e;rw[if_pos rfl,UH cells r _ _ hr,List.lookup_cons];simp
noncomputable def Ri(names:List (Str×NameKind))(NB:List Str)(fv:List (Option Nat))(XN:List Str)(Xnames:List (Str×NameKind)):Bool:=
 names.all (λy=>decide (y.2≠.cell))&&names.all (λy=>decide (y.2≠.local)||decide (names.lookup y.1=some .local))&&decide NB.Nodup&&decide (fv.length=NB.length)&&
  names.all (λy=>decide (y.2≠.free)||(decide (Xnames.lookup y.1=some .cell)&&decide (names.lookup y.1=some .free)))&&
  (List.range NB.length).all (λi=>match fv[i]?,NB[i]? with
   |some (some j),some x=>decide (XN[j]?=some x)&&decide (names.lookup x=some .free)
   |_,_=>true)
theorem RJ{α:Type}{l:List (Str×α)}{x:Str}{v:α}(h:l.lookup x=some v):(x,v)∈l:=PySem.mem_of_lookup h
theorem Vv{env:Env}(hk:env.scope.kind= .function):∀{l:List (Str×NameKind)} {x:Str} {k:NameKind},(∀y∈l,y.2= .free->env.kindOf y.1=some .cell)->(∀y∈l,y.2≠.cell)->
  (l.map λ(y:Str×NameKind)=>if (y.2==NameKind.free&&env.scope.kind== .function&&env.kindOf y.1==some .cell)=true then (y.1,NameKind.cell) else (y.1,y.2)).lookup x=some k->(k= .cell/\l.lookup x=some .free)\/(k≠.cell/\k≠.free/\l.lookup x=some k)
 |[],_,_,_,_,h=>by simp at h
 |(n,q)::r,x,k,h1,h2,h=>by
  rw[List.map_cons] at h;by_cases hq:q= .free
  ·subst hq;have e:=h1 (n,.free) List.mem_cons_self rfl;have ht:(NameKind.free==NameKind.free&&env.scope.kind== .function&&env.kindOf n==some .cell)=true:=by
    rw[hk,show env.kindOf n=some .cell from e];decide
   simp only[ht,if_true] at h;rw[List.lookup_cons] at h ⊢;cases hx:x==n with
   |true=>
    rw[hx] at h;have h':NameKind.cell=k:=Option.some.inj h;exact .inl ⟨h'.symm,rfl⟩
   |false=>
    rw[hx] at h;exact Vv hk (λy hy=>h1 y (List.mem_cons_of_mem _ hy)) (λy hy=>h2 y (List.mem_cons_of_mem _ hy)) h
  ·have hb:(q==NameKind.free)=false:=by simpa using hq
   simp only[hb,Bool.false_and,Bool.false_eq_true,if_false] at h;rw[List.lookup_cons] at h ⊢;cases hx:x==n with
   |true=>
    rw[hx] at h;have h':q=k:=Option.some.inj h;subst h';exact .inr ⟨h2 (n,q) List.mem_cons_self,hq,rfl⟩
   |false=>
    rw[hx] at h;exact Vv hk (λy hy=>h1 y (List.mem_cons_of_mem _ hy)) (λy hy=>h2 y (List.mem_cons_of_mem _ hy)) h
theorem Tv{env:Env}(hk:env.scope.kind= .function):∀{l:List (Str×NameKind)} {x:Str},(∀y∈l,y.2= .free->env.kindOf y.1=some .cell)->l.lookup x=some .free->
  (l.map λ(y:Str×NameKind)=>if (y.2==NameKind.free&&env.scope.kind== .function&&env.kindOf y.1==some .cell)=true then (y.1,NameKind.cell) else (y.1,y.2)).lookup x=some .cell
 |[],_,_,h=>by simp at h
 |(n,q)::r,x,h1,h=>by
  rw[List.map_cons];rw[List.lookup_cons] at h;cases hx:x==n with
  |true=>
   rw[hx] at h;have h':q= .free:=Option.some.inj h;subst h';have e:=h1 (n,.free) List.mem_cons_self rfl;have ht:(NameKind.free==NameKind.free&&env.scope.kind== .function&&env.kindOf n==some .cell)=true:=by
    rw[hk,show env.kindOf n=some .cell from e];decide
   simp only[ht,if_true];rw[List.lookup_cons,hx]
  |false=>
   rw[hx] at h;have z:=Tv hk (λy hy=>h1 y (List.mem_cons_of_mem _ hy)) h;split
   ·rw[List.lookup_cons,hx];exact z
   ·rw[List.lookup_cons,hx];exact z
theorem QH{X:Cx}{scope:Scope}{NB:List Str}{fv:List (Option Nat)}(hk:scope.kind= .function)(hX:X.env.scope.kind= .function)(hcell:∀x,X.env.scope.names.lookup x=some .cell->∃c,X.env.cells.lookup x=some c)
 (chk:Ri scope.names NB fv X.N X.env.scope.names=true):CompOk X scope (Xo X.env.cells scope.names []) NB fv:=by
 unfold Ri at chk;simp only[Bool.and_eq_true,List.all_eq_true,decide_eq_true_eq,Bool.or_eq_true] at chk;obtain⟨⟨⟨⟨⟨c1,c2⟩,c3⟩,c4⟩,c5⟩,c6⟩:=chk;have f1:∀y∈scope.names,y.2= .free->X.env.kindOf y.1=some .cell:=λy hy e=>by
  rcases c5 y hy with z|z
  ·exact absurd e z
  ·exact z.1
 have hasc:∀x,(x,NameKind.free)∈scope.names->∃c,X.env.cells.lookup x=some c:=λx m=>hcell x (f1 _ m rfl);have isfree:∀x,(relabel scope X.env).names.lookup x=some .cell\/(relabel scope X.env).names.lookup x=some .free->scope.names.lookup x=some .free:=λx h=>by
  have lem:= @Vv X.env hX scope.names x;rcases h with h|h
  ·rcases lem f1 c1 (k:=.cell) h with ⟨_,z⟩|⟨z,_⟩
   ·exact z
   ·exact absurd rfl z
  ·rcases lem f1 c1 (k:=.free) h with ⟨z,_⟩|⟨_,z,_⟩
   ·cases z
   ·exact absurd rfl z
 refine⟨Qg λy hy e=>?_,hk,c1,λy hy e=>?_,c3,c4,λx c h=>?_,λx h=>?_,λi x j h1 h2=>?_⟩
 ·obtain⟨n,q⟩:=y;have e':q= .free:=e;subst e';exact hasc n hy
 ·rcases c2 y hy with z|z
  ·exact absurd e z
  ·exact z
 ·by_cases m:(x,NameKind.free)∈scope.names
  ·obtain⟨c',hc'⟩:=hasc x m;rw[Um _ _ _ _ m,hc'] at h;rw[hc'];exact h
  ·rw[UH _ _ _ _ m] at h;cases h
 ·have m:=RJ (isfree x h);exact⟨_,Um _ _ _ _ m⟩
 ·have hi:i<NB.length:=(List.getElem?_eq_some_iff.mp h1).1;have z:=c6 i (List.mem_range.mpr hi);rw[h1,h2] at z;simp only[Bool.and_eq_true,decide_eq_true_eq] at z;have m:=RJ z.2;have kc:=f1 _ m rfl;refine⟨z.1,.inr (.inl kc),?_,⟨_,Um _ _ _ _ m⟩,.inl (Tv hX f1 z.2)⟩;rw[kc];decide
theorem Va{CX:CXT}{P:Program}{w:World}{K:W.Frag}{mg:Str->Option Value}{base:Heap}{N:List Str}{qual:Str}{sc scope:Scope}{f:Addr}{cd:Value}{A:Around}{outer:List Env}{s:Shared}{H:Hp}{E:XK}{NB:List Str}{fv:List (Option Nat)}
 (hk:scope.kind= .function)(hX:sc.kind= .function)(chk:Ri scope.names NB fv N sc.names=true):
  CompOk (cxOf CX P w K mg base N qual sc f cd A outer s H E).nox scope (Xo (cxOf CX P w K mg base N qual sc f cd A outer s H E).env.cells scope.names []) NB fv:=
 QH hk hX (λx h=>TX h) chk
theorem compOk_fnE{CX:CXT}{P:Program}{w:World}{K:W.Frag}{mg:Str->Option Value}{base:Heap}{N:List Str}{qual:Str}{sc scope:Scope}{f:Addr}{cd:Value}{A:Around}{outer:List Env}{s:Shared}{H:Hp}{E:XK}{NB:List Str}{fv:List (Option Nat)}
 (hk:scope.kind= .function)(hX:sc.kind= .function)(chk:Ri scope.names NB fv N sc.names=true):
  CompOk (cxOf CX P w K mg base N qual sc f cd A outer s H E) scope (Xo (cxOf CX P w K mg base N qual sc f cd A outer s H E).env.cells scope.names []) NB fv:=
 QH hk hX (λx h=>TX h) chk
end L2
end
section
namespace L2
open PySem PySem.Spec PyProof.Rows
structure ExcC(K:W.Frag)(C:Addr):Prop where
 ga:W.findIn K (.ref C) "__getattribute__"=some (some (.builtin "BaseException.__getattribute__"))
 gn:W.findIn K (.ref C) "__getattr__"=some none
 gc:W.findIn K (.ref C) "__class__"=some (some (.builtin "object.__class__"))
 mo:W.mroIn K C (.type "object")=some true
 mb:W.mroIn K C (.type "BaseException")=some true
 cl:(W.clsIn K C).isSome=true
theorem isT_of{K:W.Frag}{C:Addr}{M:Model}{h:Heap}(X:K.In h)(e:(W.clsIn K C).isSome=true):W.Looks M h (isType (.ref C)) true:=by
 unfold W.clsIn at e;split at e
 ·rename_i c d cd sl look
  intro A' Q' E' s' k q;unfold isType loadHead;exact wpAny_bind (wpAny_loadPart (k _ _ (X _ _ look)) (wpAny_pure q))
 ·cases e
def TZ(a C:Addr)(h:Heap):Prop:=∃o,h.get? a=some o/\o.cls= .ref C
section
variable {prog:Program}{w:World}{A:Around}{E:Value->Shared->Prop}{K:W.Frag}{h:Heap}{g:Array GenState}{d:Drawn}{t:Nat}{os:OsState}{a C:Addr}{o:Obj}
theorem RQ{M:Model}(p:TZ a C h):W.Looks M h (typeOf (.ref a)) (.ref C):=by
 obtain⟨o,e,c⟩:=p;exact c▸(W.Looks.ld e).andThen .now
theorem err_get{R:Result->Shared->Prop}(X:K.In h)(c:ExcC K C)(p:TZ a C h)(hq:R (.ok (.ret (.ref C))) ⟨h,g,d,t,os⟩):
  codeAny (model prog w) A (.call (.builtin "getset_descriptor.__get__") ⟨[.builtin "object.__class__",.ref a,.ref C],[]⟩) R ⟨h,g,d,t,os⟩:=by
 have L0:=RQ (M:=model prog w) p;have L1:=W.looks_mroIn (M:=model prog w) X c.mo;have hT5:(⟨h,g,d,t,os⟩:Shared).TypeIs (.builtin "object.__class__") "getset_descriptor":=F.typeOf_object_class;refine codeAny_call_builtin F.slot_gs_get.plain F.entry_gs_get (F.slot_gs_get.check _ _ _ _ _ _ _ _ hT5 (F.args_gs_get _ _ _) ?_);have ho:=F.owner_object_class;rw[←ho] at L1;repeat (any_goals (first|assumption|with_reducible refine W.Looks.at L0 ?_|with_reducible refine W.Looks.at L1 ?_|wp_step))
 refine⟨Code.quiet_builtin _ (by decide+kernel),codeAny_builtin F.entry_object_class ?_⟩;repeat (any_goals (first|assumption|with_reducible refine W.Looks.at L0 ?_|with_reducible refine W.Looks.at L1 ?_|wp_step))
theorem err_entry{tk:Tok}{Q:Fin->Shared->Prop}(X:K.In h)(c:ExcC K C)(p:TZ a C h)(hq:Q (.done (.ret (.ref C))) ⟨h,g,d,t,os⟩):
  wpAny (model prog w) A (Builtin.«object.__getattribute__» ⟨[.ref a,.str "__class__" tk],[]⟩) Q E ⟨h,g,d,t,os⟩:=by
 have L0:=RQ (M:=model prog w) p;have L2:=W.looks_findIn (M:=model prog w) X c.gc;have hT5:(⟨h,g,d,t,os⟩:Shared).TypeIs (.builtin "object.__class__") "getset_descriptor":=F.typeOf_object_class;have f5:=F.typeOf_object_class;have f6:=F.slot_gs_get.lookup;have f7:=F.slot_gs_set.lookup;repeat (any_goals (first|assumption|with_reducible refine W.Looks.at L0 ?_|with_reducible refine W.Looks.at L2 ?_|wp_step))
 refine err_get X c p ?_;repeat (any_goals (first|assumption|wp_step))
theorem err_check{M:Model}{nameV:Value}{Q:Unit->Shared->Prop}(X:K.In h)(c:ExcC K C)(p:TZ a C h)(hq:Q () ⟨h,g,d,t,os⟩):wpAny M A (checkBuiltinCall "BaseException.__getattribute__" ⟨[.ref a,nameV],[]⟩) Q E ⟨h,g,d,t,os⟩:=by
 have hk:builtinKind "BaseException.__getattribute__"=some .slot:=by decide+kernel
 have hsplit:splitId "BaseException.__getattribute__"=some ("BaseException","__getattribute__"):=by decide+kernel
 have L0:=RQ (M:=M) p;have L1:=W.looks_mroIn (M:=M) X c.mb;have ha:=F.args_bexc_ga (.ref a) nameV;simp only[checkBuiltinCall,hk,hsplit];refine wpAny_bind ?_;unfold isInstance;repeat (any_goals (first|with_reducible refine W.Looks.at L0 ?_|with_reducible refine W.Looks.at L1 ?_|wp_step))
 exact hq
theorem err_call{tk:Tok}{R:Result->Shared->Prop}(X:K.In h)(c:ExcC K C)(p:TZ a C h)(hq:R (.ok (.ret (.ref C))) ⟨h,g,d,t,os⟩):
  codeAny (model prog w) A (.call (.builtin "BaseException.__getattribute__") ⟨[.ref a,.str "__class__" tk],[]⟩) R ⟨h,g,d,t,os⟩:=
 codeAny_call_builtin F.attr_ValueError.ga.plain F.entry_bexc_ga (err_check X c p (err_entry X c p hq))
theorem err_by{tk:Tok}{Q:Value->Shared->Prop}(X:K.In h)(c:ExcC K C)(p:TZ a C h)(hq:Q (.ref C) ⟨h,g,d,t,os⟩):wpAny (model prog w) A (getAttrBy (.ref a) (.str "__class__" tk) false) Q E ⟨h,g,d,t,os⟩:=by
 have L0:=RQ (M:=model prog w) p;have L1:=W.looks_findIn (M:=model prog w) X c.ga;have L2:=W.looks_findIn (M:=model prog w) X c.gn;have f3:=F.attr_ValueError.ga.bind (.ref a);have hx2:(Value.builtin "BaseException.__getattribute__"==Value.builtin "object.__getattribute__")=false:=by decide+kernel
 have hx1:(onTheHeap (Value.ref C)&&Value.builtin "BaseException.__getattribute__"==Value.builtin "object.__getattribute__")=false:=by rw[hx2];rfl
 repeat (any_goals (first|assumption|with_reducible refine W.Looks.at L0 ?_|with_reducible refine W.Looks.at L1 ?_|with_reducible refine W.Looks.at L2 ?_|wp_step))
 refine err_call X c p ?_;repeat (any_goals (first|assumption|wp_step))
theorem err_attr{Q:Option Value->Shared->Prop}(X:K.In h)(c:ExcC K C)(p:TZ a C h)(hq:Q (some (.ref C)) ⟨h,g,d,t+1,os⟩):wpAny (model prog w) A (getAttr? (.ref a) "__class__") Q E ⟨h,g,d,t,os⟩:=by
 unfold getAttr? getAttrBy?;repeat (any_goals (first|assumption|with_reducible apply err_by X c p|wp_step))
theorem kitx_err(c:ExcC K C):W.KitX K (.ref a) (.ref C) (TZ a C) where
 ty:=λM h _ p=>RQ p
 it:=λM h X _=>isT_of X c.cl
 ne:=λh tp dd its n sl X htp=>by
  refine Bool.eq_false_iff.mpr λq=>?_;have e:C=tp:=Value.ref.inj (beq_iff_eq.mp q);subst e;have z:=c.cl;unfold W.clsIn at z;split at z
  ·rename_i c' d' cd' sl' ho
   have y:=(X _ _ ho).symm.trans htp;cases y
  ·cases z
 ca:=λ{_ _ _ _ _ s} X p k=>by
  obtain⟨h,g,d,t,os⟩:=s;exact err_attr X c p k
end
section
variable {X:Cx}
def rIsiE(K:W.Frag):List V->Hp->VK->Prop:=λxs H Q=>∃a C c cv b,xs=[.ref a,c]/\H a=some (excO a (.ref C))/\ExcC K C/\clsV c=some cv/\W.kitOne K (.ref C) cv=some b/\Q (.bl b) H
theorem Inv.err{pins:List (Addr×Obj)}{σ:St}{H:Hp}{s:Shared}{a C:Addr}(I:Inv X pins σ H s)(e:H a=some (excO a (.ref C))):TZ a C s.heap:=by
 obtain⟨⟨o,vs,h1,h2,_⟩,_⟩:=(show ObjOk X.prog X.w H s.heap a (excO a (.ref C)) from I.hok a _ e);exact⟨o,h1,h2⟩
theorem Xk:VB X (.builtin "isinstance") (rIsiE X.K):=by
 intro pins s σ H xs us Q I r h;obtain⟨a,C,c,cv,b,rfl,ea,ec,rc,e,q⟩:=h;obtain⟨u,u',rfl,ru,ru'⟩:=vals2 r;cases clsV_rel rc ru';cases (show u=Value.ref a from ru);exact W.kia_one (kitx_err ec) I.kIn (I.err ea) e (λz=>nomatch z) λtk=>⟨.bl b,H,I.tok _,rfl,q⟩
end
end L2
end
section
namespace L2
open PySem PySem.Spec PyProof.Rows PySem.SeqAt
section
variable {X:Cx}
def rSumI(K:W.Frag):List V->Hp->VK->Prop:=λxs H Q=>∃(a:Addr) (ns:List Int),xs=[.ref a]/\SqL K H a (ns.map V.int)/\Q (.int ns.sum) H
theorem call_sumI(hc:X.calm=true):VB X (.builtin "sum") (rSumI X.K):=by
 intro pins s σ H xs us Q I r h;obtain⟨a,ns,rfl,hq,k⟩:=h;obtain⟨u,rfl,ru⟩:=VQ r;cases ru;obtain⟨its,rv,pl,hz⟩:=I.list hq;have hI:=To rv;obtain⟨ys,e⟩:=hI.allInts.items;refine PySem.sum_intListG (I.ok.hd hc) (e▸pl.isList) λh' tk t' kk=>⟨.int ns.sum,H,I.kept kk,⟨t',?_⟩,k⟩;have e2:ns=ys.toList.map (·.1):=by
  rw[←nums_intItems,←e];exact hI.numsOf.symm
 rw[preSum_eq,List.take_of_length_le (by simp),e2]
theorem bools_at{bs:List Bool}:∀{us:List Value},Vals (bs.map V.bl) us->us=bs.map Value.bool:=by
 induction bs with
 |nil=>intro us r;cases r;rfl
 |cons b bs ih=>
  intro us r;cases r with
  |cons r1 r2=>rw[ih r2,List.map_cons,show _=Value.bool b from r1]
noncomputable def isTr(y:Value):Bool:=match y with | .bool b=>b|_=>false
theorem countP_tr(bs:List Bool):(bs.map Value.bool).countP isTr=bs.count true:=by
 induction bs with
 |nil=>rfl
 |cons b bs ih=>
  rw[List.map_cons,List.countP_cons,List.count_cons,ih];cases b<;>rfl
theorem eqAt_tr{A:Around}{s:Shared}{bs:List Bool}{y:Value}(h:y∈bs.map Value.bool):EqAt A s y (.bool true) (isTr y):=by
 obtain⟨b,_,rfl⟩:=List.mem_map.mp h;have z:=EqAt.bool_bool (A:=A) (s:=s) b true;cases b<;>exact z
def rCountT(K:W.Frag):V->List V->Hp->VK->Prop:=λx xs H Q=>∃(a:Addr) (bs:List Bool),x= .ref a/\xs=[.bl true]/\SqL K H a (bs.map V.bl)/\Q (.int (bs.count true)) H
theorem Qv:MtR X "list.count" (rCountT X.K):=by
 intro pins s σ H x xs v us Q I rx r h;obtain⟨a,bs,rfl,rfl,hq,k⟩:=h;obtain⟨u,rfl,ru⟩:=VQ r;cases (show v=Value.ref a from rx);cases (show u=Value.bool true from ru);obtain⟨its,rv,pl,hz⟩:=I.list hq;cases bools_at rv;obtain⟨⟨cls,dd,data,sl⟩,ho,hc,n,hd⟩:=pl.isList;simp only at hc hd;subst hc hd;refine call_meets F.slot_list_count ⟨_,ho,rfl⟩ F.entry_list_count (F.args_list_count_2 _ _) (list_countAt a _ n dd sl (.bool true) isTr) ⟨ho,λy hy=>eqAt_tr (by simpa using hy),?_⟩;show EP X pins σ Q _ _;exact⟨.int (bs.count true),H,I.tok _,⟨s.toks,by rw[show ((bs.map Value.bool).toArray.toList)=bs.map Value.bool from rfl,countP_tr]⟩,k⟩
def rIndexT(K:W.Frag):V->List V->Hp->VK->Prop:=λx xs H Q=>∃(a:Addr) (bs:List Bool) (j:Nat),x= .ref a/\xs=[.bl true]/\SqL K H a (bs.map V.bl)/\bs.length<=1000/\bs[j]?=some true/\(∀m,m<j->bs[m]?=some false)/\Q (.int (j:Int)) H
theorem Qt:MtR X "list.index" (rIndexT X.K):=by
 intro pins s σ H x xs v us Q I rx r h;obtain⟨a,bs,j,rfl,rfl,hq,hl,hj,hm,k⟩:=h;obtain⟨u,rfl,ru⟩:=VQ r;cases (show v=Value.ref a from rx);cases (show u=Value.bool true from ru);obtain⟨its,rv,pl,hz⟩:=I.list hq;cases bools_at rv;obtain⟨⟨cls,dd,data,sl⟩,ho,hc,n,hd⟩:=pl.isList;simp only at hc hd;subst hc hd;have hlt:j<bs.length:=(List.getElem?_eq_some_iff.mp hj).1;refine call_meets F.slot_list_index ⟨_,ho,rfl⟩ F.entry_list_index (F.args_list_index_2 _ _) (list_indexAt a _ n dd sl (.bool true) isTr j (by simpa using hlt) (by omega) ?_ ?_) ⟨ho,λy hy=>eqAt_tr (by simpa using hy),?_⟩
 ·obtain⟨_,e⟩:=List.getElem?_eq_some_iff.mp hj;simp[e,isTr]
 ·intro m hm1 hm2;obtain⟨_,e⟩:=List.getElem?_eq_some_iff.mp (hm m hm2);simp[e,isTr]
 ·exact⟨.int j,H,I.tok _,⟨_,rfl⟩,k⟩
def leP(p q:Int×Int):Prop:=p.1<q.1\/(p.1=q.1/\p.2<=q.2)
theorem lexLt_pair(p q:Int×Int):HT.lexLt [p.1,p.2] [q.1,q.2]=decide (p.1<q.1\/(p.1=q.1/\p.2<q.2)):=by
 by_cases h1:p.1=q.1
 ·by_cases h2:p.2=q.2
  ·simp[HT.lexLt,h1,h2]
  ·simp[HT.lexLt,h1,h2]
 ·simp[HT.lexLt,h1]
def rMinP(K:W.Frag):List V->Hp->VK->Prop:=λxs H Q=>∃(a:Addr) (rs:List (Addr×Int×Int)),xs=[.ref a]/\SqL K H a (rs.map λr=>V.ref r.1)/\rs≠[]/\(∀r∈rs,SqT K H r.1 [.int r.2.1,.int r.2.2])/\∀r∈rs,(∀r'∈rs,leP r.2 r'.2)->Q (.ref r.1) H
theorem QI(hc:X.calm=true)(hu:X.A.units+1<cLine):VB X (.builtin "min") (rMinP X.K):=by
 intro pins s σ H xs us Q I r h;obtain⟨a,rs,rfl,hq,hne,hT,k⟩:=h;obtain⟨u,rfl,ru⟩:=VQ r;cases ru;obtain⟨its,rv,pl,hz⟩:=I.list hq;have e1:=rv.length;rw[List.length_map] at e1;have at_:∀(i:Nat) v,its.toArray[i]?=some v->∃r,rs[i]?=some r/\v= .ref r.1:=λi v e=>by
  have e':its[i]?=some v:=by simpa using e
  have hi:i<its.length:=(List.getElem?_eq_some_iff.mp e').1;have hi':i<rs.length:=by omega
  obtain⟨u,hu,hr⟩:=rv.get (i:=i) (x:=V.ref rs[i].1) (by simp[hi']);rw[e'] at hu;cases hu;exact⟨rs[i],by simp[hi'],hr⟩
 have tup:∀r∈rs,∃vs:List Value,IsTup s.heap r.1 vs.toArray/\IntsAre vs [r.2.1,r.2.2]:=λr hr=>by
  obtain⟨vs,rv',p,_⟩:=I.tuple (hT r hr);exact⟨vs,p,To (ns:=[r.2.1,r.2.2]) rv'⟩
 let f:Nat->Int×Int:=λi=>(rs[i]?.map (·.2)).getD (0,0)
 have hlen:0<rs.length:=List.length_pos_iff.mpr hne;have fz:∀(i:Nat) r,rs[i]?=some r->f i=r.2:=λi r e=>by simp[f,e]
 refine Qx (Gd:=λh=>∀b o,s.heap.get? b=some o->h.get? b=some o) (bt:=λi j=>decide ((f i).1<(f j).1\/((f i).1=(f j).1/\(f i).2<(f j).2))) (I.ok.hd hc) pl.isList (by simp;omega) (λi j vi vj s' Q' E' hg hi hj q=>?_) (λ_ _ e=>e) (λh h' g kk b o e=>kk b o (Heap.lt_size e) (g b o e)) λv h' tk hv kk=>?_
 ·obtain⟨r1,hr1,rfl⟩:=at_ i vi hi;obtain⟨r2,hr2,rfl⟩:=at_ j vj hj;obtain⟨vs1,⟨o1,p1,p2⟩,i1⟩:=tup r1 (List.mem_of_getElem? hr1);obtain⟨vs2,⟨o2,p3,p4⟩,i2⟩:=tup r2 (List.mem_of_getElem? hr2);have z:=HT.lt_tupInts (prog:=X.prog) (w:=X.w) (A:=X.A.in1) (E:=E') (s:=s') (Q:=Q') (l:=r1.1) (b:=r2.1) (items:=vs1.toArray) (items2:=vs2.toArray) ⟨o1,hg _ _ p1,p2⟩ ⟨o2,hg _ _ p3,p4⟩ (by simpa using i1) (by simpa using i2) hu (by
   rw[lexLt_pair r1.2 r2.2];have q1:f i=r1.2:=by simp[f,hr1]
   have q2:f j=r2.2:=by simp[f,hr2]
   rw[←q1,←q2];exact q)
  exact z
 ·obtain⟨r0,hr0,rfl⟩:=at_ _ v hv;obtain⟨b1,b2⟩:=Vn f leP (λi j=>decide ((f i).1<(f j).1\/((f i).1=(f j).1/\(f i).2<(f j).2))) (λx=>.inr ⟨rfl,Int.le_refl _⟩) (λx y z h1 h2=>by unfold leP at *;omega)
   (λi j z=>by have:=of_decide_eq_true z;unfold leP;omega) (λi j z=>by have:=of_decide_eq_false z;unfold leP;omega) (its.toArray.size-1)
  refine⟨.ref r0.1,H,I.kept kk,rfl,k r0 (List.mem_of_getElem? hr0) λr' hr'=>?_⟩;obtain⟨i,hi,rfl⟩:=List.mem_iff_getElem.mp hr';have z:=b2 i (by have:its.toArray.size=rs.length:=(by simp;omega);omega);have q1:f (argBest (λi j=>decide ((f i).1<(f j).1\/((f i).1=(f j).1/\(f i).2<(f j).2))) (its.toArray.size-1))=r0.2:=fz _ _ hr0;have q2:f i=rs[i].2:=by simp[f,hi]
  rw[q1,q2] at z;exact z
end
theorem vals_by:∀{xs:List V} {us:List Value},us.length=xs.length->(∀(j:Nat) u,us[j]?=some u->∃x,xs[j]?=some x/\RelV x u)->Vals xs us
 |[],[],_,_=>.nil
 |[],_::_,h,_=>by simp at h
 |_::_,[],h,_=>by simp at h
 |x::xs,u::us,h,f=>by
  obtain⟨y,e,r⟩:=f 0 u rfl;simp at e;subst e;exact .cons r (vals_by (by simpa using h) λj v hj=>f (j+1) v (by simpa using hj))
section
variable {prog:Program}{w:World}{A:Around}{E:Value->Shared->Prop}{s:Shared}{T:String}{r d:Addr}{n:Nat}{P:Nat->Value->Prop}{OK:Heap->Prop}
theorem collect_src{Q:List Value->Shared->Prop}(K:W.KdlSrc prog w T r d n P OK)(hh:A.handled=none)(hok:OK s.heap)(hn:n<=sizeLine)
 (h:∀(h':Heap) tk (vs:List Value),(∀b o,s.heap.get? b=some o->h'.get? b=some o)->vs.length=n->(∀(j:Nat) v,vs[j]?=some v->P j v)->Q vs {s with heap:=h',toks:=tk}):
  wpAny (model prog w) A (collect (.ref r)) Q E s:=by
 have lt:=K.there _ hok;have key:∀R:Result->Shared->Prop,(∀(h':Heap) (tk:Nat) (acc:Array Value) (c:Nat),(∀b o,b≠s.heap.objs.size->(s.heap.push (seqObj "list" #[] 0)).get? b=some o->h'.get? b=some o)->h'.get? s.heap.objs.size=some {cls:=.type "list",dict:=none,data:=.seq acc c,slots:= #[]}->ItemsOf P acc n->
   R (.ok (.ret (.ref s.heap.objs.size))) {s with heap:=h',toks:=tk})->codeAny (model prog w) A (.builtin "list.__iadd__" ⟨[.ref s.heap.objs.size,.ref r],[]⟩) R {s with heap:=s.heap.push (seqObj "list" #[] 0)}:=λR hR=>by
  refine codeAny_builtin entry_list_iadd' ?_;rw[Around.under_plainId (by decide+kernel) _];exact W.kdl_extend (s:={s with heap:=s.heap.push (seqObj "list" #[] 0)}) K hh (K.keep _ _ hok λb _ o e=>Heap.get?_push_of_some _ e) s.heap.objs.size (Nat.ne_of_gt lt.1) (Nat.ne_of_gt lt.2) _ 0 (Heap.get?_push_size _ rfl) hR hn
 unfold collect;refine wpAny_bind (wpAny_runValue (codeAny_builtin entry_proto_collect' ?_));show wpAny _ _ (do again (.builtin "list.__iadd__" ⟨[←newList [],.ref r],[]⟩)) _ _ s;refine wpAny_bind (wpAny_newList (wpAny_pure ⟨Code.quiet_builtin _ (by decide+kernel),key _ λh' tk acc c kk hS hacc=>?_⟩));refine wpAny_bind (wpAny_load hS ?_);refine wpAny_pure (h h' tk acc.toList (λb o e=>kk b o (Nat.ne_of_lt (Heap.lt_size e)) (Heap.get?_push_of_some _ e)) ?_ λj v e=>?_)
 ·rw[Array.length_toList];exact hacc.1
 ·exact hacc.2 j v (by rw[←Array.getElem?_toList];exact e)
theorem sorted_src{Q:Value->Shared->Prop}(K:W.KdlSrc prog w T r d n P OK)(hh:A.handled=none)(hok:OK s.heap)(hn:n<64)(hP:∀vs:List Value,vs.length=n->(∀(j:Nat) v,vs[j]?=some v->P j v)->∃ns,IntsAre vs ns/\∀(h':Heap) tk (vs':List Value) (ns':List Int) (a:Addr) (e:Nat) (h1:Heap),(∀b o,s.heap.get? b=some o->h1.get? b=some o)->
   h1.objs.size<=a->(∀b o,h1.get? b=some o->h'.get? b=some o)->h'.get? a=some (seqObj "list" vs'.toArray e)->IntsAre vs' ns'->ns'.Perm ns->ns'.Pairwise (·<=·)->Q (.ref a) {s with heap:=h',toks:=tk}):
  wpAny (model prog w) A (call (.builtin "sorted") [.ref r]) Q E s:=by
 refine Calls.call_function_entry kind_sorted plain_sorted entry_sorted (args_sorted1 _) ?_;unfold Builtin.«sorted»;refine wpAny_bind (m:=checkCount "sorted" 1 1 _) (wpAny_pure ?_);refine wpAny_bind (collect_src K hh hok (Nat.le_trans (Nat.le_of_lt hn) (by decide)) λh1 tk vs kk hl hv=>?_);obtain⟨ns,hI,fin⟩:=hP vs hl hv;refine wpAny_bind (wpAny_newList ?_);have hoL:(h1.push (seqObj "list" vs.toArray 0)).get? h1.objs.size=some (seqObj "list" vs.toArray 0):=Heap.get?_push_size _ rfl;refine wpAny_bind (wpAny_holding (wpAny_call_entry slot_list_sort ⟨_,hoL,rfl⟩ entry_list_sort (list_sort_tree hoL hI (by omega) λout ns' a1 a2 a3=>⟨_,rfl,?_⟩) (args_list_sort _)));obtain⟨e,he⟩:=sortedHeap_at (out:=out) hoL;refine wpAny_pure ⟨_,rfl,fin _ tk out.toList ns' h1.objs.size e h1 kk (Nat.le_refl _) (λb o q=>?_) (by simpa using he) a1 a2 a3⟩;have z:=Heap.get?_push_of_some (seqObj "list" vs.toArray 0) q;have hb:b≠h1.objs.size:=Nat.ne_of_lt (Heap.lt_size q);rw[sortedHeap_old hb (Heap.lt_size z)];exact z
end
section
variable {X:Cx}
def rSortedD:List V->Hp->VK->Prop:=λxs H Q=>∃(a:Addr) (kvs:List (Int×V)),xs=[.ref a]/\H a=some (.dK (kvs.map λp=>(Sum.inl p.1,p.2)))/\kvs.length<64/\
 ∀ns':List Int,ns'.Perm (kvs.map (·.1))->ns'.Pairwise (·<=·)->∀p,H p=none->Q (.ref p) (upd H p (.lst (ns'.map V.int)))
theorem Xj(hc:X.calm=true):VB X (.builtin "sorted") rSortedD:=by
 intro pins s σ H xs us Q I r h;obtain⟨a,kvs,rfl,ha,hl',k⟩:=h;obtain⟨u,rfl,ru⟩:=VQ r;cases ru;obtain⟨z,hd,vs,rv,dd⟩:=RT I.hok ha;have hlen:kvs.length=vs.length:=by rw[←Paired.length rv,List.length_map]
 obtain⟨o,es,ep,ho,hr⟩:=id dd;have da:s.heap.DictAt (ZO X.prog X.w) a vs ep:=⟨o,es,ho,hr⟩;refine sorted_src (W.kdl_dict (kvs:=vs) (ep:=ep) hd) (I.ok.hd hc) da (by omega) λus hl hv=>⟨kvs.map (·.1),?_,λh' tk vs' ns' p e h1 k1 hp k2 hat hi hperm hpw=>?_⟩
 ·refine To (vals_by (by rw[List.length_map,List.length_map];omega) λj v hj=>?_);obtain⟨kk,x,h1,h2⟩:=hv j v hj;have hlt:j<kvs.length:=by
   have:=(List.getElem?_eq_some_iff.mp hj).1;omega
  obtain⟨w,hw,_⟩:=KV.at rv (i:=j) (k:=Sum.inl kvs[j].1) (v:=kvs[j].2) (by simp[hlt]);rw[h1] at hw;cases hw;exact⟨.int kvs[j].1,by simp[hlt],kV_of h2⟩
 ·have I1:Inv X pins σ H {s with heap:=h1,toks:=tk}:=I.kept k1;refine⟨.ref p,_,I1.laid (o:=.lst (ns'.map V.int)) (t':=tk) k2 hp ⟨?_,vs',e,Sb hi,hat⟩,rfl,k ns' hperm hpw p (I1.hok.fresh hp)⟩;rw[List.length_map,hperm.length_eq,List.length_map];exact Nat.le_trans (Nat.le_of_lt hl') (by decide)
end
end L2
end
section
namespace L2
open PySem PySem.Spec PyProof.Rows PySem.SeqAt
abbrev TF:=St->Hp->(Hp->Prop)->Prop
def PFs(X:Cx)(es:List Expr)(t:TF):Prop:=
 ∀(pins:List (Addr×Obj)) (s:Shared) (σ:St) (H:Hp) (out:Str) (Q:VK),Inv X pins σ H s->out.length+2000 * es.length<=sizeLine->t σ H (λH'=>∀y,Q (.str y) H')->
  wpAny (model X.prog X.w) X.A (joinParts out (evalEach es X.env)) (EP X pins σ Q) X.xe s
section
variable {X:Cx}{e:Expr}{es:List Expr}{te:TE}{t:TF}{pos:Pos}
theorem Uu:PFs X [] (λ_ H Q=>Q H):=λpins s σ H out Q I hz h=>
 joinParts_nil (s:=s) ⟨.str out,H,I.tok _,⟨_,rfl⟩,h out⟩ (by simp at hz;exact hz)
theorem YX{x j p}(hr:PFs X es t)(hx:x.length<=2000:=by decide):PFs X (.Constant (.str x) j p::es) t:=λpins s σ H out Q I hz h=>by
 have hz2:out.length+2000 * (es.length+1)<=sizeLine:=hz;have e1:(out++x).length=out.length+x.length:=strLen_append _ _;show wpAny _ _ (joinParts out (eval (.Constant (.str x) j p) X.env::evalEach es X.env)) _ _ s;refine joinParts_cons (Calls.Constant_str ⟨by rw[e1];omega,?_⟩);exact hr pins _ σ H _ Q (I.tok _) (by rw[e1];omega) h
theorem len_small{a:Int}(h:a.natAbs.log2<1920):(toString a:Str).length<=2000:=by
 have e:=int_text_length_le (k:=1920) (by decide) h;show (Str.ofString (toString a)).length<=2000;rw[PySem.ofString_length];omega
theorem Vg{p:Pos}(he:PE X e te)(hr:PFs X es t):PFs X (.FormattedValue e (-1) none p::es) (λσ H Q=>te σ H λx H1=>∃i,x= .int i/\i.natAbs.log2<1920/\t σ H1 Q):=λpins s σ H out Q I hz h=>by
 have hz2:out.length+2000 * (es.length+1)<=sizeLine:=hz;show wpAny _ _ (joinParts out (eval (.FormattedValue e (-1) none p) X.env::evalEach es X.env)) _ _ s;refine joinParts_cons (FormattedValue_plain (thn (he pins s σ H _ I h) λu s1 ⟨x,H1,I1,r1,i,e1,hs,q⟩=>?_));subst e1;obtain⟨tk,rfl⟩:=r1;have e2:(out++(toString i:Str)).length=out.length+(toString i:Str).length:=strLen_append _ _;have e3:=len_small hs;refine formatField_int_small hs ⟨by rw[e2];omega,?_⟩;exact hr pins _ σ H1 _ Q ((I1.tok _).tok _) (by rw[e2];omega) q
def tFStr(t:TF):TE:=λσ H Q=>t σ H (λH'=>∀y,Q (.str y) H')
theorem VG{e2:Expr}(h:PFs X (e::e2::es) t)(hz:2000 * (e::e2::es).length<=sizeLine:=by decide):PE X (.JoinedStr (e::e2::es) pos) (tFStr t):=λpins s σ H Q I hq=>
 JoinedStr_many (h pins s σ H Str.empty Q I (by show 0+_<=_;omega) hq)
end
section
variable {X:Cx}
theorem Vals.ins{xs:List V}{us:List Value}{y:V}{u:Value}(h:Vals xs us)(r:RelV y u)(k:Nat):Vals (xs.take k++y::xs.drop k) (us.take k++u::us.drop k):=(h.take k).append (.cons r (h.drop k))
def rInsert:V->List V->Hp->VK->Prop:=λx vs H Q=>∃l xs i y,x= .ref l/\vs=[.int i,y]/\H l=some (.lst xs)/\0<=i/\i<=xs.length/\xs.length<sizeLine/\Q .non (upd H l (.lst (xs.take i.toNat++y::xs.drop i.toNat)))
theorem mt_insert:MtM X "list.insert" rInsert:=by
 intro pins s σ H x vs v us Q I rx rv h;obtain⟨l,xs,i,y,rfl,rfl,hH,h1,h2,hz,q⟩:=h;cases rx;obtain⟨u,v,rfl,ru,rvv⟩:=rv.two;obtain⟨t,rfl⟩:=ru;obtain⟨z,its,n,r,hl,e⟩:=I.lstM hH;have b1:xs.length<2 ^ 24:=hz;refine call_meets F.slot_list_insert ⟨_,e,rfl⟩ F.entry_list_insert (F.args_list_insert_3 _ _ _)
  (PySem.AutoSeq1.list_insert_list_int_val_1 l its.toArray n i t v (by rw[show Builtin.List.listFitsIndex i=true from fitsIndex_both (by omega) (by omega)];simp) (by rw[List.size_toArray];omega)) ⟨e,?_⟩
 refine⟨.non,_,I.lset (its':=its.take i.toNat++v::its.drop i.toNat) hH e ?_ (r.ins rvv i.toNat) ?_,rfl,q⟩
 ·show (its.toArray.extract 0 (if i<0 then (i+(its.toArray.size:Int)).toNat else min i.toNat its.toArray.size)).push v++its.toArray.extract (if i<0 then (i+(its.toArray.size:Int)).toNat else min i.toNat its.toArray.size)=_;rw[if_neg (by omega),List.size_toArray,Nat.min_eq_left (by omega)];exact W.kl_ins_eq its i.toNat v
 ·rw[List.length_append,List.length_cons,List.length_take,List.length_drop];omega
end
section
variable {prog:Program}{w:World}{A:Around}{E:Value->Shared->Prop}{s:Shared}
theorem SU{it l:Addr}{i:Nat}{items:Array Value}{x:Value}{Q:Value->Shared->Prop}(hit:s.heap.IsTupleIter it l i)(hl:s.heap.IsTuple l items)(hx:items[i]?=some x)
 (hQ:∀h',h'.IsTupleIter it l (i+1)->Heap.SameBut it s.heap h'->Q x {s with heap:=h'}):wpAny (model prog w) A (Builtin.SmallTypes.nextOf (.ref it)) Q E s:=by
 obtain⟨o,ho,hc,hd⟩:=id hit;obtain⟨ol,hol,_,nl,hdl⟩:=hl;unfold Builtin.SmallTypes.nextOf;refine wpAny_bind (wpAny_callSpecial?_slot (name:=Str.ofString "__next__") hit.typeIs F.slot_tuple_iterator_next (wpAny_call_entry F.slot_tuple_iterator_next hit.typeIs F.entry_tuple_iterator_next ?_ (F.args_tuple_iterator_next_1 _)));show wpAny _ _ (field (.ref it) 0 >>= _) _ _ s;refine wpAny_bind (wpAny_field ho hd (x:=.ref l) rfl ?_);show wpAny _ _ (if (Value.ref l==Value.none)=true then _ else _) _ _ s;rw[if_neg (show ¬((Value.ref l==Value.none)=true) from Bool.false_ne_true)];show wpAny _ _ (field (.ref it) 1 >>= _) _ _ s;refine wpAny_bind (wpAny_field ho hd (x:=.int i 0) rfl ?_);show wpAny _ _ (seqItems? (.ref l) >>= _) _ _ s;refine wpAny_bind (wpAny_seqItems hol hdl ?_);simp only[Int.toNat_natCast,hx];refine wpAny_bind (wpAny_setField ho hd (by simp) (wpAny_pure ⟨x,rfl,wpAny_pure (hQ _ ?_ (Heap.SameBut.update ..))⟩));exact⟨_,Heap.get?_update_self _ ho (Obj.isFreed_of_fields (Obj.data_mapFields hd _)),(Obj.cls_mapFields ..).trans hc,by
  rw[Obj.data_mapFields hd];simp[rawInt]⟩
theorem Uy{it l:Addr}{i:Nat}{items:Array Value}{Q:Value->Shared->Prop}(hh:A.handled=none)(hit:s.heap.IsTupleIter it l i)(hl:s.heap.IsTuple l items)(hx:items[i]?=none)
 (hE:∀h' e,Heap.ExtBut it s.heap h'->(∃o,h'.get? e=some o/\o.cls= .type "StopIteration")->E (.ref e) {s with heap:=h'}):wpAny (model prog w) A (Builtin.SmallTypes.nextOf (.ref it)) Q E s:=by
 obtain⟨o,ho,hc,hd⟩:=id hit;obtain⟨ol,hol,_,nl,hdl⟩:=hl;unfold Builtin.SmallTypes.nextOf;refine wpAny_bind (wpAny_callSpecial?_slot (name:=Str.ofString "__next__") hit.typeIs F.slot_tuple_iterator_next (wpAny_call_entry F.slot_tuple_iterator_next hit.typeIs F.entry_tuple_iterator_next ?_ (F.args_tuple_iterator_next_1 _)));show wpAny _ _ (field (.ref it) 0 >>= _) _ _ s;refine wpAny_bind (wpAny_field ho hd (x:=.ref l) rfl ?_);show wpAny _ _ (if (Value.ref l==Value.none)=true then _ else _) _ _ s;rw[if_neg (show ¬((Value.ref l==Value.none)=true) from Bool.false_ne_true)];show wpAny _ _ (field (.ref it) 1 >>= _) _ _ s;refine wpAny_bind (wpAny_field ho hd (x:=.int i 0) rfl ?_);show wpAny _ _ (seqItems? (.ref l) >>= _) _ _ s;refine wpAny_bind (wpAny_seqItems hol hdl ?_);simp only[Int.toNat_natCast,hx];refine wpAny_bind (wpAny_rule (wpAny_bind (wpAny_setField ho hd (by simp) ?_)));show wpAny _ _ (newExc (.type "StopIteration") [] >>= _) _ _ _;refine wpAny_bind ?_;simp only[newExc,newTuple];refine wpAny_bind (wpAny_newObj_type ?_ (by size_fits));refine wpAny_bind (m:=firstArgMember _ _) (wpAny_of_eq (a:=Value.none) (by first|rfl|(simp only[firstArgMember];rfl)) ?_);refine wpAny_newObj_type ?_ (by size_fits);simp only[raiseNew];refine wpAny_bind (wpAny_handled ?_)
 first|rw[show A.in1.handled=none from hh]|rw[hh]
 refine wpAny_bind (wpAny_pure (wpAny_throw ?_));exact hE _ _ (((Heap.SameBut.update ..).extBut.push _).push _) ⟨_,Heap.get?_push_size _ rfl,rfl⟩
theorem draws_tup(hh:A.handled=none)(it l:Addr)(hne:l≠it)(items:Array Value):Draws prog w A it [it,l] items.size (λi v=>items[i]?=some v) (λi h=>h.IsTupleIter it l i/\h.IsTuple l items) where
 live:=λ_ _ st=>let ⟨o,ho,_⟩:=st.1;⟨o,ho⟩
 frame:=λ_ _ _ st hk=>⟨st.1.at λo e=>hk it (by simp) o e,let ⟨o,ho,r⟩:=st.2;⟨o,hk l (by simp) o ho,r⟩⟩
 item:=λi s Q E hi st hQ=>by
  refine SU st.1 st.2 (x:=items[i]) (by simp[hi]) λh' hit' hs'=>?_;exact hQ _ h' s.toks (by simp[hi]) ⟨hit',st.2.extBut hs'.extBut hne⟩ hs'
 done:=λs Q E st hE=>Uy hh st.1 st.2 (by simp) hE
open AutoSeq1 (wpAny_loadPart') in
theorem enum_newT(l:Addr)(items:Array Value)(n:Nat)(dct:Option Addr)(sl:Array (Option Value)):
  Meets (Builtin.«enumerate.__new__» ⟨[.type "enumerate",.ref l],[]⟩) (λ_ R s=>s.heap.get? l=some {cls:=.type "tuple",dict:=dct,data:=.seq items n,slots:=sl}/\
   R (.ok (.ret (.ref (s.heap.push {cls:=.type "tuple_iterator",data:=.fields #[.ref l,.int 0 0]}).objs.size)))
    {s with heap:=(s.heap.push {cls:=.type "tuple_iterator",data:=.fields #[.ref l,.int 0 0]}).push {cls:=.type "enumerate",data:=.fields #[.none,.bool false,.ref s.heap.objs.size,rawInt 0,.none,.none]}}):=
 .of_wp λprog w A R s h=>by
  obtain⟨hp,g,d,tk,os⟩:=s;obtain⟨hl,h⟩:=h;have hsub:=sub_enumerate;have hL:Heap.IsTuple (Shared.heap ⟨hp,g,d,tk,os⟩) l items:=⟨_,hl,rfl,n,rfl⟩
  wp_walk using wpAny_loadPart' hl
  refine wpAny_stack_any λst=>wpAny_pure ?_;split
  ·rename_i c _ _ _ _ _
   cases (c==Value.type "enumerate")
   ·wp_walk using wpAny_loadPart' hl,wpAny_pyIter_tuple hL
    exact⟨_,rfl,h⟩
   ·wp_walk using wpAny_loadPart' hl,wpAny_pyIter_tuple hL
    exact⟨_,rfl,h⟩
  ·wp_walk using wpAny_loadPart' hl,wpAny_pyIter_tuple hL
   exact⟨_,rfl,h⟩
theorem call_enumT{l:Addr}{items:Array Value}{Q:Value->Shared->Prop}(hL:s.heap.IsTuple l items)
 (h:∀h',IsEnum h' (s.heap.objs.size+1) s.heap.objs.size 0 .none->h'.IsTupleIter s.heap.objs.size l 0->h'.objs.size=s.heap.objs.size+2->
   (∀b o,s.heap.get? b=some o->h'.get? b=some o)->Q (.ref (s.heap.objs.size+1)) {s with heap:=h'}):
  wpAny (model prog w) A (call (.type "enumerate") [.ref l]) Q E s:=by
 obtain⟨⟨c,dct,dt,sl⟩,hl,hc,n,hd⟩:=hL;replace hc:c= .type "tuple":=hc;replace hd:dt= .seq items n:=hd;subst hc hd;refine callType_new F.called_enumerate (by decide) (F.typeCall_enumerate_1 _) (F.newCall_enumerate_1 _) (λobj=>F.args_object_init_2 obj _) F.entry_enumerate_new (enum_newT l items n dct sl) ⟨hl,?_⟩;have hz:(s.heap.push {cls:=.type "tuple_iterator",data:=.fields #[.ref l,.int 0 0]}).objs.size=s.heap.objs.size+1:=Heap.size_push ..;show _/\_;rw[hz];have he:IsEnum ((s.heap.push {cls:=.type "tuple_iterator",data:=.fields #[.ref l,.int 0 0]}).push
   {cls:=.type "enumerate",data:=.fields #[.none,.bool false,.ref s.heap.objs.size,rawInt 0,.none,.none]}) (s.heap.objs.size+1) s.heap.objs.size 0 .none:=by
  have:=Heap.get?_push_size (s.heap.push {cls:=.type "tuple_iterator",data:=.fields #[.ref l,.int 0 0]})
   (o:={cls:=.type "enumerate",data:=.fields #[.none,.bool false,.ref s.heap.objs.size,rawInt 0,.none,.none]}) rfl
  rw[hz] at this;exact this
 refine⟨⟨_,he,rfl⟩,h _ he ⟨_,Heap.get?_push_of_some _ (Heap.get?_push_size _ rfl),rfl,rfl⟩ (by rw[Heap.size_push,hz]) λb o x=>Heap.get?_push_of_some _ (Heap.get?_push_of_some _ x)⟩
end
end L2
end
section
namespace L2
open PySem PySem.Spec PyProof.Rows PySem.SeqAt
theorem Inv.turnedL{X:Cx}{pins:List (Addr×Obj)}{σ:St}{H:Hp}{s:Shared}{h':Heap}{t':Nat}{fp:List Addr}(I:Inv X pins σ H s)(k:∀b o,b∉fp->s.heap.get? b=some o->h'.get? b=some o)(hf:∀b∈fp,FpOk X pins H b)(there:∀b∈fp,∃o,h'.get? b=some o):
  Inv X pins σ H {s with heap:=h',toks:=t'}:=by
 have nit:∀b u,H b=some u->b∉fp:=λb u e z=>by rw[(hf b z).1] at e;cases e
 refine I.step (g':=s.gens) (d':=s.drawn) (ch:=fp) (λb hb=>?_) (λb o _ _ hc e _=>k b o hc e) (λb o _ _ hc e _=>⟨o.slots,k b o hc e⟩) (λ_ _ _ _ n=>n)
  (λb o hc e=>⟨o,k b o hc e⟩) (λ_ _ e=>e) (λ_ _ _ e=>e) (λb ps e=>⟨#[],by rw[e];simp⟩) (λm hm=>?_) (λb u e=>?_) I.bare
 ·obtain⟨f0,f1,f2,f3,f4,f5⟩:=hf b hb;exact⟨f3,f1,f4,f5⟩
 ·obtain⟨o,es,ep,ho,r⟩:=hm;exact⟨o,es,ep,k _ o (λz=>(hf _ z).2.1 rfl) ho,r⟩
 ·refine(I.hok b u e).stay (λc v hc q=>k c v ?_ q) (λ_ q=>q) λ_ _ q=>q;rcases hc with z|z
  ·rw[z];exact nit b u e
  ·exact nit c _ z
noncomputable def Ite(K:W.Frag)(a:Addr):It:=
 ⟨λi H=>∃xs x,SqT K H a xs/\xs[i]?=some x,λi H x H'=>∃T y,H T=none/\H'=upd H T (.tup [.int i,y])/\x= .ref T/\∀xs,SqT K H a xs->xs[i]?=some y,λi H=>∃xs,SqT K H a xs/\xs.length<=i⟩
theorem turn_enumT{P:Program}{w:World}{K:W.Frag}{elts:List Expr}{k:Nat}{tpos:Pos}(a it e:Addr)(hei:e≠it):Turn P w K (.Tuple elts k tpos) (Ite K a) [e,it] e (λi h=>(∃old,IsEnum h e it i old)/\h.IsTupleIter it a i) where
 mem:=by simp
 obj:=λi h st b hb=>by
  rcases List.mem_cons.mp hb with rfl|hb
  ·obtain⟨⟨old,q⟩,_⟩:=st;exact⟨_,q,λv z=>by
    have z':Data.fields _=Data.cell v:=z;cases z'⟩
  ·have e':=List.mem_singleton.mp hb;subst e';obtain⟨_,o,q,c,d⟩:=st;exact⟨o,q,λv z=>by rw[d] at z;cases z⟩
 keep:=λi h h' st k=>by
  obtain⟨⟨old,q⟩,t⟩:=st;exact⟨⟨old,k e (by simp) _ q⟩,t.at λo z=>k it (by simp) o z⟩
 item:=by
  intro X hP hw hK hc i pins s σ H E I hf st hg;subst hP hw hK;obtain⟨xs,x,hq,hx⟩:=hg;obtain⟨its,rv,p,hz⟩:=I.tuple hq;obtain⟨u,hu,ru⟩:=rv.get hx;obtain⟨⟨old,he⟩,hit⟩:=st;obtain⟨f0,f1,f2,f3,f4,f5⟩:=hf e (by simp);obtain⟨g0,g1,g2,g3,g4,g5⟩:=hf it (by simp);have pt:s.heap.IsTuple a its.toArray:=p;obtain⟨oe,hoe,_⟩:=id hit;have hal:a≠it:=λz=>by
   subst z;obtain⟨o1,q1,c1,_⟩:=pt;obtain⟨o2,q2,c2,_⟩:=hit;rw[q1] at q2;cases q2;rw[c1] at c2;exact absurd c2 (by decide)
  have hae:a≠e:=λz=>by
   subst z;obtain⟨o1,q1,c1,_⟩:=pt;rw[show s.heap.get? a=_ from he] at q1;cases q1;have c2:Value.type "enumerate"=Value.type "tuple":=c1;exact absurd c2 (by decide)
  have hef:e∉[it,a]:=λm=>by
   rcases List.mem_cons.mp m with z|m
   ·exact hei z
   ·exact hae (List.mem_singleton.mp m).symm
  have hi:i<its.toArray.size:=by
   have:=(List.getElem?_eq_some_iff.mp hu).1;simpa using this
  refine wpAny_pyNext_enum_itemD (draws_tup (A:=X.A.in1) (I.ok.hd hc) it a hal its.toArray) he ⟨hit,pt⟩ hi hei hef λy h' tk hy ho hst hT hsz hk=>?_;have ey:y=u:=by
   have:its.toArray[i]?=some u:=by simpa using hu
   rw[this] at hy;exact(Option.some.inj hy).symm
  subst ey;have fr:H s.heap.objs.size=none:=I.hok.fresh (Nat.le_refl _);refine⟨_,rfl,?_⟩;refine wpAny_letOwnedTupleGo_enum (s:={s with heap:=h',toks:=tk+1}) ho λh2 he2 sb=>?_;have hlt:e<s.heap.objs.size:=Heap.lt_size he;have hlt2:it<s.heap.objs.size:=Heap.lt_size hoe;have hT2:h2.get? s.heap.objs.size=some {cls:=.type "tuple",data:=.seq #[.int i tk,y]}:=(sb.2 _ (Nat.ne_of_gt hlt)).trans hT;have hk2:∀b o,b≠e->b≠it->s.heap.get? b=some o->h2.get? b=some o:=λb o z1 z2 q=>(sb.2 b z1).trans (hk b o z1 z2 q);have it2:h2.IsTupleIter it a (i+1):=hst.1.at λo z=>(sb.2 it (Ne.symm hei)).trans z;refine⟨.ref s.heap.objs.size,upd H s.heap.objs.size (.tup [.int i,x]),?_,rfl,⟨_,x,fr,rfl,rfl,λys hy=>by rw[I.tuple_inj hy hq];exact hx⟩,⟨⟨_,he2⟩,it2⟩,λb hb=>?_⟩
  ·have I1:Inv X pins σ H {s with heap:=h2,toks:=tk+1}:=I.turnedL (fp:=[e,it]) (λb o hb q=>hk2 b o (λz=>hb (by simp[z])) (λz=>hb (by simp[z])) q) hf λb hb=>by
    rcases List.mem_cons.mp hb with rfl|hb
    ·exact⟨_,he2⟩
    ·have e':=List.mem_singleton.mp hb;subst e';obtain⟨o,q,_⟩:=it2;exact⟨o,q⟩
   have ff:=I.fpOk (b:=s.heap.objs.size) (Nat.le_refl _) fr;refine I1.track fr ff.2.2.2.1 ff.2.1 ff.2.2.2.2.1 ff.2.2.2.2.2 ⟨by show 2<=sizeLine;decide,[.int i tk,y],.cons ⟨tk,rfl⟩ (.cons ru .nil),⟨_,hT2,rfl,_,rfl⟩⟩
  ·have hb':b<s.heap.objs.size:=by
    rcases List.mem_cons.mp hb with rfl|hb
    ·exact hlt
    ·have e':=List.mem_singleton.mp hb;subst e';exact hlt2
   rw[Zc (Nat.ne_of_lt hb')];exact(hf b hb).1
 done:=by
  intro X hP hw hK hc i pins s σ H E I hf st hg;subst hP hw hK;obtain⟨xs,hq,hx⟩:=hg;obtain⟨its,rv,p,hz⟩:=I.tuple hq;obtain⟨⟨old,he⟩,hit⟩:=st;have pt:s.heap.IsTuple a its.toArray:=p;have hl:=rv.length;unfold pyNext;have hT:s.TypeIs (.ref e) "enumerate":=⟨_,he,rfl⟩;refine wpAny_bind (wpAny_attempt (wpAny_callSpecial?_slot (name:=Str.ofString "__next__") hT F.slot_enumerate_next (wpAny_call_entry F.slot_enumerate_next hT F.entry_enumerate_next ?_ (F.args_enumerate_next_1 _))));show wpAny _ _ (field (.ref e) 2 >>= _) _ _ _;refine wpAny_bind (wpAny_field he rfl (x:=.ref it) rfl ?_);refine wpAny_bind (Uy (A:=X.A.in1) (I.ok.hd hc) hit pt (by simp;omega) λh' ex hb hx'=>?_);obtain⟨o,ho,hcl⟩:=hx';refine wpAny_bind (wpAny_isInstance (T:="StopIteration") (b:=true) ⟨o,ho,hcl⟩ isSubtype_stop ?_);refine wpAny_pure ⟨rfl,?_⟩;obtain⟨g0,g1,g2,g3,g4,g5⟩:=hf it (by simp);exact I.turned (t':=s.toks) (λb o hb' q=>hb b o hb' q) g0 g1 g3 g4 g5
 self:=λ_ _ _ _ _ st h=>by
  obtain⟨⟨old,he⟩,_⟩:=st;exact wpAny_pyIter_enum he h
section
variable {X:Cx}
def iEnumT(K:W.Frag)(ta:TA):TI:=λσ H R=>ta σ H λvs H1=>∃a,vs=[.ref a]/\(∃xs,SqT K H1 a xs)/\R (Ite K a) H1
theorem pi_enumT{a:Expr}{ta:TA}{p pos:Pos}{elts:List Expr}{k:Nat}{tpos:Pos}(hg:Gl X "enumerate")(hm:X.mg "enumerate"=none)(ha:PA X [a] ta)(hs:starEach [a] X.env=[(false,eval a X.env)]:=by rfl):PI X (.Tuple elts k tpos) (.Call (.Name "enumerate" p) [a] [] pos) (iEnumT X.K ta):=by
 intro pins s σ H R I h;refine Call_ (Tn I hg hm boot_enumerate (PyProof.Rows.callWith_type1 (thn (ha pos pins s σ H _ I h) λus s1 ⟨vs,H1,I1,r1,q1⟩=>?_) hs rfl));obtain⟨b,e,⟨xs,hq⟩,q⟩:=q1;subst e;obtain⟨u,rfl,ru⟩:=r1.one;cases ru;obtain⟨its,rv,pt,hz⟩:=I1.tuple hq;refine call_enumT (show s1.heap.IsTuple b its.toArray from pt) λh' he hit hsz hk=>?_;refine wpAny_pyIter_enum (s:={s1 with heap:=h'}) he ?_;refine⟨s1.heap.objs.size+1,[s1.heap.objs.size+1,s1.heap.objs.size],_,_,H1,rfl,I1.kept (t':=s1.toks) hk,turn_enumT b _ _ (Nat.succ_ne_self _),⟨⟨_,he⟩,hit⟩,λc hc=>?_,q⟩;rcases List.mem_cons.mp hc with rfl|hc
 ·exact I1.fpOk (Nat.le_succ _) (I1.hok.fresh (Nat.le_succ _))
 ·have e':=List.mem_singleton.mp hc;subst e';exact I1.fpOk (Nat.le_refl _) (I1.hok.fresh (Nat.le_refl _))
end
theorem for_enumT{K:PySem.W.Frag}{a:Addr}{xs:List V}{g:TG}{tb:TS}{D:Ends}{σ:St}{H:Hp}(Pv:Nat->St->Hp->Prop)(h0:Pv 0 σ H)(hl:∀i σ H,i<=xs.length->Pv i σ H->SqT K H a xs)
 (hs:∀i x σ H T,xs[i]?=some x->Pv i σ H->H T=none->g (.ref T) σ (upd H T (.tup [.int i,x])) λσ2 H2=>tb {D with nx:=Pv (i+1),ct:=Pv (i+1),bk:=D.nx} σ2 H2)(hd:∀σ H,Pv xs.length σ H->D.nx σ H):
  ∃W:Nat->Nat->St->Hp->Prop,(∃m,W 0 m σ H)/\∀i m σ H,W i m σ H->
   ((Ite K a).stop i H/\D.nx σ H)\/((Ite K a).go i H/\∃N:St->Hp->Prop,(∀σ' H',N σ' H'->∃m',m'<m/\W (i+1) m' σ' H')/\∀x H',(Ite K a).yld i H x H'->g x σ H' λσ2 H2=>tb {D with nx:=N,ct:=N,bk:=D.nx} σ2 H2):=by
 refine⟨λi m σ H=>m=xs.length-i/\i<=xs.length/\Pv i σ H,⟨xs.length,by simp,Nat.zero_le _,h0⟩,?_⟩;rintro i m σ H ⟨rfl,hi,p⟩;have q:=hl i σ H hi p;by_cases hlt:i<xs.length
 ·refine .inr ⟨⟨xs,xs[i],q,by simp[hlt]⟩,Pv (i+1),λσ' H' p'=>⟨xs.length-(i+1),by omega,rfl,hlt,p'⟩,λx H' y=>?_⟩;obtain⟨T,z,nT,e,e2,y⟩:=y;subst e e2;exact hs i z σ _ T (y xs q) p nT
 ·have e:i=xs.length:=by omega
  subst e;exact .inl ⟨⟨xs,q,Nat.le_refl _⟩,hd σ H p⟩
theorem tree_kw{prog:Program}{w:World}{A:Around}{E:Value->Shared->Prop}{s:Shared}{id:String}{b:Builtin}{args:List Value}{kw:List (Str×Value)}{Q:Value->Shared->Prop}(hk:builtinKind id=none)(hp:plainId id=true)(hb:entryFor table id=some b)(ha:argsOk id ⟨args,kw⟩)
 (hc:wpAny (model prog w) A.in1 (b ⟨args,kw⟩) (λfin s'=>match fin with
   | .done f=>(match (Except.ok f:Result) with | .ok (.ret v)=>Q v s'| .ok _=>False| .error e=>E e s')
   | .again c'=>c'.quiet=true/\codeAny (model prog w) A c' (λr s'=>match r with | .ok (.ret v)=>Q v s'| .ok _=>False| .error e=>E e s') s') E s):
  wpAny (model prog w) A (call (.builtin id) args kw) Q E s:=by
 refine wpAny_call (codeAny_call_builtin hp hb ?_);simp only[checkBuiltinCall,hk];cases hsig:Manifest.signature? id with
 |none=>exact wpAny_pure hc
 |some sig=>
  have h2:Bind.checkArgs id sig ⟨args,kw⟩=pure ():=by simpa only[argsOk,hsig] using ha
  simp only[h2];exact wpAny_pure hc
theorem QO(a v:Value):argsOk "min" ⟨[a],[(Str.ofString "default",v)]⟩:=by unfold argsOk;kernel_rfl
section
variable {prog:Program}{w:World}{A:Around}{R:Result->Shared->Prop}{I S:Addr}{fp wr:List Addr}{n:Nat}{P:Nat->Value->Prop}{St:Nat->Heap->Prop}{bt:Nat->Nat->Bool}{Gd:Heap->Prop}{kw:List (Str×Value)}
end
section
variable {prog:Program}{w:World}{A:Around}{E:Value->Shared->Prop}{s:Shared}
theorem min_listK{l:Addr}{its:Array Value}{Gd:Heap->Prop}{bt:Nat->Nat->Bool}{Q:Value->Shared->Prop}(hh:A.handled=none)(hl:s.heap.IsList l its)(hn:0<its.size)
 (hcmp:CmpG prog w A.in1 (λi v=>its[i]?=some v) Gd bt)(hg:Gd s.heap)(stay:∀h h':Heap,Gd h->(∀b o,b<s.heap.objs.size->h.get? b=some o->h'.get? b=some o)->Gd h')
 (hQ:∀v h' tk,its[argBest bt (its.size-1)]?=some v->(∀b o,s.heap.get? b=some o->h'.get? b=some o)->Q v {s with heap:=h',toks:=tk}):
  wpAny (model prog w) A (call (.builtin "min") [.ref l] [(Str.ofString "default",.none)]) Q E s:=by
 have nm:(toString "min"++toString ".loop":String)="min.loop":=by decide
 have hlt:l<s.heap.objs.size:=by obtain⟨_,e,_⟩:=hl;exact Heap.lt_size e
 refine tree_kw F.kind_min F.plain_min F.entry_min (QO _ _) ?_;show wpAny _ A.in1 (Builtin.Builtins.bindParams "min" ["key","default"] 0 ⟨[],[(Str.ofString "default",.none)]⟩ >>= _) _ _ s;refine wpAny_bind (wpAny_of_eq (show Builtin.Builtins.bindParams "min" ["key","default"] 0 ⟨[],[(Str.ofString "default",.none)]⟩=pure [none,some .none] from rfl) ?_);refine wpAny_bind (wpAny_pure ?_);refine wpAny_bind (wpAny_pyIter_list hl ?_);refine wpAny_bind (wpAny_newObj_type ?_);rw[nm];refine wpAny_pure ⟨plainId_quiet F.plain_min_loop _,?_⟩;generalize hh1:s.heap.push {cls:=.type "list_iterator",data:=.fields #[.ref l,.int 0 0]}=h1;have sz1:h1.objs.size=s.heap.objs.size+1:=by rw[←hh1,Heap.size_push]
 have W:=Walks.list (prog:=prog) (w:=w) (A:=A.in1) hh s.heap.objs.size l (Nat.ne_of_lt hlt) its;have hSf:h1.objs.size∉[s.heap.objs.size,l]:=by
  intro m;rcases List.mem_cons.mp m with z|m
  ·omega
  ·have z:h1.objs.size=l:=List.mem_singleton.mp m;have q:l<h1.objs.size:=by rw[sz1];exact Nat.lt_succ_of_lt hlt
   rw[z] at q;exact Nat.lt_irrefl _ q
 have nw:h1.objs.size∉[s.heap.objs.size]:=λm=>hSf (W.sub _ m);have keep0:∀b o,s.heap.get? b=some o->(h1.push {cls:=.type "list",data:=.seq ([]:List Value).toArray}).get? b=some o:=λb o e=>Heap.get?_push_of_some _ (by rw[←hh1];exact Heap.get?_push_of_some _ e);have st0:(h1.push {cls:=.type "list",data:=.seq ([]:List Value).toArray}).IsListIter s.heap.objs.size l 0/\(h1.push {cls:=.type "list",data:=.seq ([]:List Value).toArray}).IsList l its:=by
  refine⟨⟨_,Heap.get?_push_of_some _ (by rw[←hh1];exact Heap.get?_push_size _ rfl),rfl,rfl⟩,?_⟩;obtain⟨o,e,r⟩:=hl;exact⟨o,keep0 l o e,r⟩
 have old:∀b,b<s.heap.objs.size->b∉[s.heap.objs.size]/\b≠h1.objs.size:=λb z=>⟨λm=>by have:=List.mem_singleton.mp m;omega,by omega⟩;refine codeAny_builtin F.entry_min_loop ?_;rw[Around.under_plainId F.plain_min_loop _];show wpAny _ A.in1 (seqItems? (.ref h1.objs.size) >>= _) _ _ _;refine wpAny_bind (wpAny_seqItems (Heap.get?_push_size _ rfl) rfl ?_);show wpAny _ A.in1 (tryCatch (pyNext (.ref s.heap.objs.size)) _ >>= _) _ _ _;refine wpAny_bind (wpAny_tryCatch (W.item 0 _ _ _ hn st0 λv h2 tk2 pv st2 k2=>?_));have hS2:=k2 h1.objs.size _ nw (Heap.get?_push_size _ rfl);show wpAny _ A.in1 (updateSeq h1.objs.size (λ_=> #[v,v]) >>= _) _ _ _;refine wpAny_bind ?_;refine wpAny_updateSeq hS2 rfl ?_;rw[nm];have off:∀(h:Heap) (g:Obj->Obj) (b:Addr) (o:Obj),b≠h1.objs.size->h.get? b=some o->(h.update h1.objs.size g).get? b=some o:=λh g b o z e=>(Heap.get?_update_other _ _ (Ne.symm z)).trans e;have stay':∀h h':Heap,Gd h->(∀b o,b∉[s.heap.objs.size]->b≠h1.objs.size->h.get? b=some o->h'.get? b=some o)->Gd h':=λh h' g k=>stay h h' g λb o z e=>k b o (old b z).1 (old b z).2 e;have hg2:Gd h2:=stay _ _ hg λb o z e=>k2 b o (old b z).1 (keep0 b o e);refine wpAny_pure ⟨plainId_quiet F.plain_min_loop _,Qw (S:=h1.objs.size) W hcmp stay' hSf _ 0 _ v _ rfl hn (W.frame _ _ _ st2 λb z o e=>off _ _ b o (λq=>hSf (q▸z)) e) (stay' _ _ hg2 λb o _ z e=>off _ _ b o z e) pv (Heap.get?_update_self _ hS2 rfl) λv' h3 tk3 p3 k3=>?_⟩;exact hQ v' h3 tk3 p3 λb o e=>k3 b o (old b (Heap.lt_size e)).1 (old b (Heap.lt_size e)).2 (off _ _ b o (old b (Heap.lt_size e)).2 (k2 b o (old b (Heap.lt_size e)).1 (keep0 b o e)))
theorem min_nilK{l:Addr}{Q:Value->Shared->Prop}(hh:A.handled=none)(hl:s.heap.IsList l #[])
 (hQ:∀h' tk,(∀b o,s.heap.get? b=some o->h'.get? b=some o)->Q .none {s with heap:=h',toks:=tk}):
  wpAny (model prog w) A (call (.builtin "min") [.ref l] [(Str.ofString "default",.none)]) Q E s:=by
 have nm:(toString "min"++toString ".loop":String)="min.loop":=by decide
 have hlt:l<s.heap.objs.size:=by obtain⟨_,e,_⟩:=hl;exact Heap.lt_size e
 refine tree_kw F.kind_min F.plain_min F.entry_min (QO _ _) ?_;show wpAny _ A.in1 (Builtin.Builtins.bindParams "min" ["key","default"] 0 ⟨[],[(Str.ofString "default",.none)]⟩ >>= _) _ _ s;refine wpAny_bind (wpAny_of_eq (show Builtin.Builtins.bindParams "min" ["key","default"] 0 ⟨[],[(Str.ofString "default",.none)]⟩=pure [none,some .none] from rfl) ?_);refine wpAny_bind (wpAny_pure ?_);refine wpAny_bind (wpAny_pyIter_list hl ?_);refine wpAny_bind (wpAny_newObj_type ?_);rw[nm];refine wpAny_pure ⟨plainId_quiet F.plain_min_loop _,?_⟩;generalize hh1:s.heap.push {cls:=.type "list_iterator",data:=.fields #[.ref l,.int 0 0]}=h1;have W:=Walks.list (prog:=prog) (w:=w) (A:=A.in1) hh s.heap.objs.size l (Nat.ne_of_lt hlt) #[];have sz1:h1.objs.size=s.heap.objs.size+1:=by rw[←hh1,Heap.size_push]
 have keep0:∀b o,s.heap.get? b=some o->(h1.push {cls:=.type "list",data:=.seq ([]:List Value).toArray}).get? b=some o:=λb o e=>Heap.get?_push_of_some _ (by rw[←hh1];exact Heap.get?_push_of_some _ e);have st0:(h1.push {cls:=.type "list",data:=.seq ([]:List Value).toArray}).IsListIter s.heap.objs.size l 0/\(h1.push {cls:=.type "list",data:=.seq ([]:List Value).toArray}).IsList l #[]:=by
  refine⟨⟨_,Heap.get?_push_of_some _ (by rw[←hh1];exact Heap.get?_push_size _ rfl),rfl,rfl⟩,?_⟩;obtain⟨o,e,r⟩:=hl;exact⟨o,keep0 l o e,r⟩
 refine codeAny_builtin F.entry_min_loop ?_;rw[Around.under_plainId F.plain_min_loop _];show wpAny _ A.in1 (seqItems? (.ref h1.objs.size) >>= _) _ _ _;refine wpAny_bind (wpAny_seqItems (Heap.get?_push_size _ rfl) rfl ?_);show wpAny _ A.in1 (tryCatch (pyNext (.ref s.heap.objs.size)) _ >>= _) _ _ _;refine wpAny_bind (wpAny_tryCatch (W.done _ _ _ st0 λh2 tk2 k2=>?_));refine wpAny_bind (wpAny_rule (wpAny_pure ?_));exact hQ h2 tk2 λb o e=>k2 b o (λm=>Nat.lt_irrefl _ ((List.mem_singleton.mp m)▸Heap.lt_size e)) (keep0 b o e)
end
section
variable {X:Cx}
def rMinD(K:W.Frag):V->Hp->VK->Prop:=λx H Q=>∃a ns,x= .ref a/\SqL K H a (ns.map V.int)/\(ns=[]->Q .non H)/\∀m:Int,m∈ns->(∀x∈ns,m<=x)->Q (.int m) H
theorem run_minD(hc:X.calm=true){pins:List (Addr×Obj)}{s:Shared}{σ:L2.St}{H:Hp}{x:V}{u:Value}{Q:VK}(I:Inv X pins σ H s)(ru:RelV x u)(h:rMinD X.K x H Q):
  wpAny (model X.prog X.w) X.A (call (.builtin "min") [u] [(Str.ofString "default",.none)]) (EP X pins σ Q) X.xe s:=by
 obtain⟨a,ns,rfl,hq,k0,k⟩:=h;cases ru;obtain⟨its,rv,pl,hz⟩:=I.list hq;have e1:=rv.length;rw[List.length_map] at e1;by_cases hne:ns=[]
 ·subst hne;have e2:its=[]:=List.length_eq_zero_iff.mp e1.symm;subst e2;exact min_nilK (I.ok.hd hc) pl.isList λh' tk kk=>⟨.non,H,I.kept kk,rfl,k0 rfl⟩
 have at_:∀(i:Nat) v,its.toArray[i]?=some v->∃t,v= .int (ns.getD i 0) t:=λi v e=>by
  have e':its[i]?=some v:=by simpa using e
  have hi:i<its.length:=(List.getElem?_eq_some_iff.mp e').1;have hi':i<ns.length:=by omega
  obtain⟨u,hu,t,ht⟩:=rv.get (i:=i) (x:=V.int ns[i]) (by simp[hi']);rw[e'] at hu;cases hu;exact⟨t,by rw[ht];simp[List.getD,hi']⟩
 have hlen:0<ns.length:=List.length_pos_iff.mpr hne;refine min_listK (Gd:=λ_=>True) (bt:=λi j=>decide (ns.getD i 0<ns.getD j 0)) (I.ok.hd hc) pl.isList (by simp;omega) (λi j vi vj s' Q' E' _ hi hj q=>?_) True.intro (λ_ _ _ _=>True.intro) λv h' tk hv kk=>?_
 ·obtain⟨t,rfl⟩:=at_ i vi hi;obtain⟨t',rfl⟩:=at_ j vj hj;exact HT.rcLt_int X.A.in1 s' _ t _ t' X.prog X.w E' Q' q
 ·obtain⟨t,rfl⟩:=at_ _ v hv;obtain⟨b1,b2⟩:=Vn (λi=>ns.getD i 0) (·<=·) (λi j=>decide (ns.getD i 0<ns.getD j 0)) (λ_=>Int.le_refl _) (λ_ _ _=>Int.le_trans) (λi j z=>Int.le_of_lt (of_decide_eq_true z)) (λi j z=>Int.not_lt.mp (of_decide_eq_false z)) (its.toArray.size-1);have hb:argBest (λi j=>decide (ns.getD i 0<ns.getD j 0)) (its.toArray.size-1)<ns.length:=by
   have:its.toArray.size=ns.length:=by simp;omega
   omega
  refine⟨.int _,H,I.kept kk,⟨t,rfl⟩,k _ ?_ λx hx=>?_⟩
  ·rw[Rc hb];exact List.getElem_mem hb
  ·obtain⟨i,hi,rfl⟩:=List.mem_iff_getElem.mp hx;have z:=b2 i (by have:its.toArray.size=ns.length:=(by simp;omega);omega);have z':ns.getD (argBest (λi j=>decide (ns.getD i 0<ns.getD j 0)) (its.toArray.size-1)) 0<=ns.getD i 0:=z;rw[Rc hi] at z';exact z'
def tMinD(K:W.Frag)(t:TA):TE:=λσ H Q=>t σ H λvs H1=>∃x,vs=[x]/\rMinD K x H1 Q
theorem pe_minD{e:Expr}{t:TA}{p pos kp cp:Pos}{j:Nat}(hc:X.calm=true)(hg:Gl X "min")(hm:X.mg "min"=none)(ha:PA X [e] t)(hs:starEach [e] X.env=[(false,eval e X.env)]:=by rfl):
  PE X (.Call (.Name "min" p) [e] [⟨some "default",.Constant .none j cp,kp⟩] pos) (tMinD X.K t):=by
 intro pins s σ H Q I h;refine wpAny_Call_Name_kw (Tn I hg hm boot_min ?_);refine callWith_kw (thn (ha pos pins s σ H _ I h) λus s1 ⟨vs,H1,I1,r1,x,e1,q1⟩=>?_) (by rw[hs];rfl) (by rw[hs];rfl);subst e1;obtain⟨u,rfl,ru⟩:=r1.one;refine thn ((pk_cons (nm:=some "default") (kpos:=kp) (ZK (j:=j) (pos:=cp)) pk_nil) pos pins s1 σ H1 (λzs H2=>zs=[.non]/\H2=H1) I1 ⟨rfl,rfl⟩) λws s2 ⟨zs,H2,I2,rz,ez,e2⟩=>?_;subst ez e2;obtain⟨v,rfl,rv⟩:=rz.one;cases rv;exact run_minD hc I2 ru q1
end
end L2
end
section
namespace L2
open PySem PySem.Spec PyProof.Rows
theorem Xq{K:W.Frag}{C:Addr}{v:Value}{b:Bool}(h:W.mroIn K C v=some b):(W.clsIn K C).isSome=true:=by
 unfold W.mroIn at h;cases e:W.clsIn K C with
 |none=>rw[e] at h;cases h
 |some cd=>rfl
theorem TK{K:W.Frag}{t:Value}:W.kitOne K t t=some true:=by
 unfold W.kitOne;rw[if_pos (by simp)]
theorem kit_ref{K:W.Frag}{t:Value}{C:Addr}{b:Bool}(h1:W.typeIn K (.ref C)=some (.type "type"))(h2:(W.clsIn K C).isSome=true)(h:W.subIn K t (.ref C)=some b)(hb:b=true\/(t== .ref C)=false:=by first|exact .inl rfl|exact .inr rfl):W.kitOne K t (.ref C)=some b:=by
 unfold W.kitOne;by_cases e:(t==Value.ref C)=true
 ·rw[if_pos e];rcases hb with hb|hb
  ·rw[hb]
  ·rw[hb] at e;cases e
 ·rw[if_neg e];show (if ((W.clsIn K C).isSome&&W.typeIn K (.ref C)==some (.type "type"))=true then W.subIn K t (.ref C) else none)=_;rw[h1,h2];exact h
theorem TL{K:W.Frag}{D C:Addr}(h1:W.typeIn K (.ref C)=some (.type "type"))(h2:(W.clsIn K C).isSome=true)(h:W.subIn K (.ref D) (.ref C)=some false)(h3:W.subIn K (.ref D) (.ref D)=some true):W.kitOne K (.ref D) (.ref C)=some false:=by
 refine kit_ref h1 h2 h (.inr ?_);have ne:D≠C:=λz=>by
  subst z;rw[h] at h3;cases h3
 exact beq_eq_false_iff_ne.mpr λz=>ne (by injection z)
theorem VP{K:W.Frag}{t:Value}{T:String}{b:Bool}(h1:W.kitMeta T=true)(h:W.subIn K t (.type T)=some b)(hb:b=true\/(t== .type T)=false:=by first|exact .inl rfl|exact .inr rfl):W.kitOne K t (.type T)=some b:=by
 unfold W.kitOne;by_cases e:(t==Value.type T)=true
 ·rw[if_pos e];rcases hb with hb|hb
  ·rw[hb]
  ·rw[hb] at e;cases e
 ·rw[if_neg e];show (if W.kitMeta T=true then W.subIn K t (.type T) else none)=_;rw[if_pos h1];exact h
end L2
end
section
namespace L2
open PySem PySem.Spec PyProof.Rows
def VN(J:It)(fv:List (Option Nat))(jx:Nat)(tc:TT)(te:TE)(σ:St)(H1:Hp)(Q:VK):Prop:=
 ∃W:Nat->Nat->List V->Hp->Prop,(∃m,W 0 m [] H1)/\∀i m ys H,W i m ys H->ys.length<sizeLine/\
 ((J.stop i H/\∀acc,H acc=none->Q (.ref acc) (upd H acc (.lst ys)))\/(J.go i H/\∀v H',J.yld i H v H'->tc ((blk fv σ).set jx (some v)) H' λb H2=>if b=true then te ((blk fv σ).set jx (some v)) H2 λy H3=>∃m',m'<m/\W (i+1) m' (ys++[y]) H3 else ∃m',m'<m/\W (i+1) m' ys H2))
theorem QF{K:W.Frag}{a:Addr}{xs:List V}{fv:List (Option Nat)}{jx:Nat}{te:TE}{σ:St}{H:Hp}{Q:VK}(Pv:Nat->List V->Hp->Prop)(h0:Pv 0 [] H)
 (hl:∀i ys H,i<=xs.length->Pv i ys H->SqL K H a xs/\ys.length<sizeLine)
 (hs:∀i x ys H (Q':VK),xs[i]?=some x->Pv i ys H->(∀y H3,Pv (i+1) (ys++[y]) H3->Q' y H3)->te ((blk fv σ).set jx (some x)) H Q')
 (hd:∀ys H,Pv xs.length ys H->∀acc,H acc=none->Q (.ref acc) (upd H acc (.lst ys))):VN (Itl K a) fv jx (λ_ H Q=>Q true H) te σ H Q:=by
 refine⟨λi m ys H=>m=xs.length-i/\i<=xs.length/\Pv i ys H,⟨xs.length,by simp,Nat.zero_le _,h0⟩,?_⟩;rintro i m ys H ⟨rfl,hi,p⟩;obtain⟨q,hz⟩:=hl i ys H hi p;refine⟨hz,?_⟩;by_cases hlt:i<xs.length
 ·refine .inr ⟨⟨xs,xs[i],q,by simp[hlt]⟩,λx H' y=>?_⟩;obtain⟨e,y⟩:=y;subst e;refine iteT ?_;exact hs i x ys _ _ (y xs q) p λy H3 p3=>⟨xs.length-(i+1),by omega,rfl,hlt,p3⟩
 ·have e:i=xs.length:=by omega
  subst e;exact .inl ⟨⟨xs,q,Nat.le_refl _⟩,hd ys H p⟩
def tCompA(wi:TI)(fv:List (Option Nat))(jx:Nat)(tc:TT)(te:TE):TE:=λσ H Q=>wi σ H λJ H1=>VN J fv jx tc te σ H1 Q
section
variable {X:Cx}{scope:Scope}{cl:List (Str×Addr)}{NB:List Str}{fv:List (Option Nat)}{x y:Str}{px py pos spos:Pos}{elt iter:Expr}{ifs:List Expr}{jx iy:Nat}{wi:TI}{tc:TT}{te:TE}
theorem TB(hc:X.calm=true)(O:CompOk X scope cl NB fv)(hi:PI X (.Name x px) iter wi)(hx:scope.names.lookup x=some .local)(hjx:NB[jx]?=some x)(hfx:fv[jx]?=some none)(hC:∀s0 H0 ex,PIfs (Vj X NB scope cl s0 H0 ex) ifs tc)
 (hE:∀s0 H0 ex,PE (Vj X NB scope cl s0 H0 ex) elt te)(hs:∀x,foldedSetIterable iter X.env x=pure x:=by intro _;rfl):PE X (.ListComp elt [⟨.Name x px,iter,ifs,0⟩] scope pos) (tCompA wi fv jx tc te):=
 pe_comp hc O hi hx hjx hfx hC hE hs
theorem VE(hc:X.calm=true)(O:CompOk X scope cl NB fv)(hi:PI X (.Name x px) iter wi)(hx:scope.names.lookup x=some .local)(hjx:NB[jx]?=some x)(hfx:fv[jx]?=some none)(hC:∀s0 H0 ex,PIfs (Vj X NB scope cl s0 H0 ex) ifs tc)
 (hE:∀s0 H0 ex,PE (Vj X NB scope cl s0 H0 ex) elt te)(hN:X.N.Nodup)(hiy:X.N[iy]?=some y)(hy:Loc X.env.scope y)
 (hsw:swapsWith (.ListComp elt [⟨.Name x px,iter,ifs,0⟩] scope pos) (some (.Name y py)) spos.line X.env=pure true)(hs:∀x,foldedSetIterable iter X.env x=pure x:=by intro _;rfl)
 (hf:X.fn y=true\/X.env.scope.names.lookup y=some .local:=by first|exact .inl rfl|exact .inr rfl|assumption):
  PS X (.Assign [.Name y py] (.ListComp elt [⟨.Name x px,iter,ifs,0⟩] scope pos) spos) (tAsg (tCompA wi fv jx tc te) (gName iy)):=
 ps_setComp hc O hi hx hjx hfx hC hE hN hiy hy hsw hs hf
end
theorem VF{X:Cx}{x:Str}{i:Int}{t:Tok}{pos:Pos}(hm:X.mg x=some (.int i t))(hg:Gl X x:=by rfl)(hd:(x==("__debug__":Str))=false:=by decide):PE X (.Name x pos) (tC (.int i)):=pe_glob (v:=.int i) hg hm ⟨t,rfl⟩ hd
theorem Uh{X:Cx}{x:Str}{C:Addr}{pos:Pos}(hm:X.mg x=some (.ref C))(hg:Gl X x:=by rfl)(hd:(x==("__debug__":Str))=false:=by decide):PE X (.Name x pos) (tC (.ref C)):=pe_glob (v:=.ref C) hg hm rfl hd
theorem Ti{X:Cx}{x:Str}{T:String}{pos:Pos}(hm:X.mg x=none)(hv:bootBuiltins x=some (.type T))(hg:Gl X x:=by rfl)(hn:x≠"__name__":=by decide)(hd:(x==("__debug__":Str))=false:=by decide):PE X (.Name x pos) (tC (.ty T)):=pe_bltn (v:=.ty T) hg hm hv rfl hn hd
end L2
end
section
namespace L2
open PySem PySem.Spec PyProof.Rows
structure TSem(X:Cx)(sts:List Stmt)(D:Ends)(σ:St)(H:Hp):Prop where
 run:∀(pins:List (Addr×Obj)) (s:Shared),Inv X pins σ H s->wpAny (model X.prog X.w) X.A (execs sts X.env) (SP X pins D) X.xe s
abbrev tSem(X:Cx)(sts:List Stmt):TS:=TSem X sts
theorem Yh{X:Cx}{sts:List Stmt}:PSs X sts (tSem X sts):=λpins s σ H D I h=>h.run pins s I
theorem Zk{X:Cx}{st:Stmt}{rest:List Stmt}{t:TS}{D:Ends}{σ:St}{H:Hp}(h1:PS X st t)(h:t {D with nx:=tSem X rest D} σ H):TSem X (st::rest) D σ H:=⟨λpins s I=>Zh h1 Yh pins s σ H D I h⟩
theorem Yo{X:Cx}{st:Stmt}{t:TS}{D:Ends}{σ:St}{H:Hp}(h1:PS X st t)(h:t D σ H):TSem X [st] D σ H:=⟨λpins s I=>Zf h1 pins s σ H D I h⟩
noncomputable def litV:Expr->Option V
 | .Constant (.int i) _ _=>some (.int i)
 | .Constant (.str x) _ _=>some (.str x)
 | .Constant .none _ _=>some .non
 | .Constant (.bool b) _ _=>some (.bl b)
 | .UnaryOp .USub (.Constant (.int i) _ _) _=>some (.int (-i))
 |_=>none
noncomputable def litVs:List Expr->Option (List V)
 |[]=>some []
 |e::es=>(litV e).bind λv=>(litVs es).map λvs=>v::vs
theorem lit_ok{X:Cx}{e:Expr}{v:V}(h:litV e=some v):PE X e (tC v)/\∀es,starEach (e::es) X.env=(false,eval e X.env)::starEach es X.env:=by
 unfold litV at h;split at h
 ·cases h;exact⟨Zg,λ_=>rfl⟩
 ·cases h;exact⟨Zl,λ_=>rfl⟩
 ·cases h;exact⟨ZK,λ_=>rfl⟩
 ·cases h;exact⟨VI,λ_=>rfl⟩
 ·cases h;exact⟨λpins s σ H Q I q=>pe_un un_neg Zg pins s σ H Q I ⟨_,rfl,q⟩,λ_=>rfl⟩
 ·cases h
theorem pa_lits{X:Cx}:∀{es:List Expr} {vs:List V},litVs es=some vs->PA X es (λ_ H Q=>Q vs H)
 |[],vs,h=>by
  cases h;exact Ze
 |e::es,vs,h=>by
  unfold litVs at h;cases h1:litV e with
  |none=>rw[h1] at h;cases h
  |some v=>
   rw[h1] at h;cases h2:litVs es with
   |none=>rw[h2] at h;cases h
   |some ws=>
    rw[h2] at h;cases h;obtain⟨a,b⟩:=lit_ok (X:=X) h1;exact Za a (pa_lits h2) (b es)
theorem Ph{X:Cx}{L:Expr}{es:List Expr}{vs:List V}{pos:Pos}(hL:Expr.List es pos=L)(h:litVs es=some vs):PE X L (λ_ H Q=>vs.length<=sizeLine/\∀p,H p=none->Q (.ref p) (upd H p (.lst vs))):=by
 subst hL;exact YN (pa_lits h)
end L2
end
section
namespace Mir
section
variable {ν:Type}
inductive Steps(goal:Int)(f:Fn ν):List (Int×Int×ν)->Fn ν->Prop where
 |nil:Steps goal f [] f
 |snoc {g:Fn ν} {n:Int} {a:Al ν} {l:List (Int×Int×ν)}:Steps goal f l g->Next goal g n a->Steps goal f (l++[(a.tick,n,a.name)]) (fput g n (after a))
theorem Steps.runs{goal:Int}{f g h:Fn ν}{l m:List (Int×Int×ν)}(x:Steps goal f l g):Runs goal g m h->Runs goal f (l++m) h:=by
 induction x generalizing m with
 |nil=>exact λy=>y
 |snoc s nx ih=>
  intro y;rw[List.append_assoc];exact ih (.ring nx y)
theorem Steps.trans{goal:Int}{f g h:Fn ν}{l m:List (Int×Int×ν)}(x:Steps goal f l g)(y:Steps goal g m h):Steps goal f (l++m) h:=by
 induction y with
 |nil=>rw[List.append_nil];exact x
 |snoc s nx ih=>rw[←List.append_assoc];exact .snoc ih nx
theorem Steps.stop{goal:Int}{f g:Fn ν}{l:List (Int×Int×ν)}(x:Steps goal f l g)(h:∀n a,g n=some a->goal<a.tick):Runs goal f l g:=by
 have:=x.runs (.stop h);rw[List.append_nil] at this;exact this
def GoodF(N:Nat)(f:Fn ν):Prop:=∀n a,f n=some a->(0<=n/\n<N)/\∀k,a.step=some k->0<k
theorem GoodF.ring{N:Nat}{f:Fn ν}(g:GoodF N f){n:Int}{a:Al ν}(h:f n=some a):GoodF N (fput f n (after a)):=by
 intro m b e;by_cases hm:m=n
 ·subst hm;rw[Ym] at e;unfold after at e;cases hs:a.step with
  |none=>rw[hs] at e;cases e
  |some q=>
   rw[hs] at e;cases e;exact⟨(g m a h).1,λk hk=>(g m a h).2 k (by rw[hs];exact hk)⟩
 ·rw[Xi _ _ hm] at e;exact g m b e
noncomputable def muF(goal:Int)(N:Nat)(f:Fn ν):Nat:=((List.range N).map λ(i:Nat)=>cntO goal (f (i:Int))).sum
theorem sum_change{N i:Nat}{g h:Nat->Nat}(hi:i<N)(e:h i+1=g i)(same:∀j,j≠i->h j=g j):((List.range N).map h).sum+1=((List.range N).map g).sum:=by
 induction N with
 |zero=>omega
 |succ N ih=>
  rw[List.range_succ,List.map_append,List.map_append,List.sum_append,List.sum_append];simp only[List.map_cons,List.map_nil,List.sum_cons,List.sum_nil];by_cases h1:i=N
  ·subst h1;have:((List.range i).map h)=((List.range i).map g):=by
    apply List.map_congr_left
    intro j hj;have:=List.mem_range.mp hj;exact same j (by omega)
   rw[this];omega
  ·have:=ih (by omega);have:=same N (λz=>h1 z.symm);omega
theorem Uz{goal:Int}{N:Nat}{f:Fn ν}(g:GoodF N f){n:Int}{a:Al ν}(nx:Next goal f n a):muF goal N (fput f n (after a))+1=muF goal N f:=by
 obtain⟨⟨h0,h1⟩,hs⟩:=g n a nx.there;refine sum_change (i:=n.toNat) (by omega) ?_ λj hj=>?_
 ·have e:((n.toNat:Nat):Int)=n:=by omega
  rw[e,Ym,nx.there];exact Sw nx.due hs
 ·rw[Xi _ _ (by omega)]
theorem Steps.good{goal:Int}{N:Nat}{f g:Fn ν}{l:List (Int×Int×ν)}(x:Steps goal f l g)(hf:GoodF N f):GoodF N g/\l.length+muF goal N g=muF goal N f:=by
 induction x with
 |nil=>exact⟨hf,by simp⟩
 |snoc s nx ih=>
  obtain⟨a,b⟩:=ih;have:=Uz a nx;refine⟨a.ring nx.there,?_⟩;rw[List.length_append,List.length_singleton];omega
end
end Mir
end
section
namespace Rk
open Mir
noncomputable def levFrom(S now due:Int):Nat->Nat->Nat
 |0,i=>i
 |n+1,i=>if now/S ^ (i+1)=due/S ^ (i+1) then i else levFrom S now due n (i+1)
noncomputable def lv(S:Int)(n:Nat)(now due:Int):Nat:=levFrom S now due n 0
theorem Vl(S now due:Int):∀n i,i<=levFrom S now due n i/\levFrom S now due n i<=i+n/\(∀j,i<=j->j<levFrom S now due n i->now/S ^ (j+1)≠due/S ^ (j+1))/\
  (levFrom S now due n i<i+n->now/S ^ (levFrom S now due n i+1)=due/S ^ (levFrom S now due n i+1))
 |0,i=>by simp[levFrom];intro j h1 h2;omega
 |n+1,i=>by
  by_cases h:now/S ^ (i+1)=due/S ^ (i+1)
  ·have e:levFrom S now due (n+1) i=i:=by rw[levFrom,if_pos h]
   rw[e];exact⟨Nat.le_refl _,by omega,λj h1 h2=>by omega,λ_=>h⟩
  ·have e:levFrom S now due (n+1) i=levFrom S now due n (i+1):=by rw[levFrom,if_neg h]
   obtain⟨a,b,c,d⟩:=Vl S now due n (i+1);rw[e];refine⟨by omega,by omega,λj h1 h2=>?_,λh3=>d (by omega)⟩;by_cases hj:j=i
   ·subst hj;exact h
   ·exact c j (by omega) h2
theorem SD(S:Int)(n:Nat)(now due:Int):lv S n now due<=n:=by have:=(Vl S now due n 0).2.1;unfold lv;omega
theorem lv_ne{S:Int}{n:Nat}{now due:Int}{j:Nat}(h:j<lv S n now due):now/S ^ (j+1)≠due/S ^ (j+1):=(Vl S now due n 0).2.2.1 j (Nat.zero_le _) h
theorem lv_eq{S:Int}{n:Nat}{now due:Int}(h:lv S n now due<n):now/S ^ (lv S n now due+1)=due/S ^ (lv S n now due+1):=(Vl S now due n 0).2.2.2 (by unfold lv at h;omega)
theorem lv_of{S:Int}{n:Nat}{now due:Int}{L:Nat}(hL:L<=n)(h1:∀j,j<L->now/S ^ (j+1)≠due/S ^ (j+1))(h2:L<n->now/S ^ (L+1)=due/S ^ (L+1)):lv S n now due=L:=by
 rcases Nat.lt_trichotomy (lv S n now due) L with h|h|h
 ·exact absurd (lv_eq (Nat.lt_of_lt_of_le h hL)) (h1 _ h)
 ·exact h
 ·exact absurd (h2 (Nat.lt_of_lt_of_le h (SD S n now due))) (lv_ne h)
theorem pow_pos{S:Int}(hS:0<S)(i:Nat):0<S ^ i:=Int.pow_pos hS
theorem div_div{a b c:Int}(hb:0<b):a/b/c=a/(b * c):=by
 rw[Int.ediv_ediv,if_neg (by omega)];omega
theorem div_pow_eq{S:Int}(hS:0<S){a b:Int}{i j:Nat}(h:a/S ^ i=b/S ^ i)(hij:i<=j):a/S ^ j=b/S ^ j:=by
 have e:S ^ j=S ^ i * S ^ (j-i):=by rw[←Int.pow_add];congr 1;omega
 rw[e,←div_div (pow_pos hS i),←div_div (pow_pos hS i),h]
noncomputable def st(S:Int)(n:Nat)(now due:Int):Int:=due/S ^ lv S n now due * S ^ lv S n now due
theorem Tt{S:Int}(hS:0<S)(n:Nat)(now due:Int):st S n now due<=due:=Int.ediv_mul_le _ (Int.ne_of_gt (pow_pos hS _))
theorem lt_st{S:Int}(hS:0<S){n:Nat}{now due:Int}(h:now<due):now<st S n now due:=by
 unfold st;cases e:lv S n now due with
 |zero=>simp;exact h
 |succ L=>
  have ne:=lv_ne (S:=S) (n:=n) (now:=now) (due:=due) (j:=L) (by omega);have p:=pow_pos hS (L+1);have le:now/S ^ (L+1)<=due/S ^ (L+1):=Int.ediv_le_ediv p (Int.le_of_lt h);have lt:now/S ^ (L+1)<due/S ^ (L+1):=by omega
  exact(Int.ediv_lt_iff_lt_mul p).mp lt
theorem lv_stay{S:Int}(hS:0<S){n:Nat}{now t due:Int}(h1:now<=t)(h2:t<st S n now due):lv S n t due=lv S n now due:=by
 have hd:t<due:=Int.lt_of_lt_of_le h2 (Tt hS n now due);refine lv_of (SD _ _ _ _) (λj hj e=>?_) λhl=>?_
 ·have e2:=div_pow_eq hS (i:=j+1) (j:=lv S n now due) e hj;have p:=pow_pos hS (lv S n now due);have:t/S ^ lv S n now due<due/S ^ lv S n now due:=(Int.ediv_lt_iff_lt_mul p).mpr h2;omega
 ·have e:=lv_eq hl;have p:=pow_pos hS (lv S n now due+1);have a:=Int.ediv_le_ediv p h1;have b:=Int.ediv_le_ediv p (Int.le_of_lt hd);omega
theorem UA{S:Int}(hS:0<S){n:Nat}{now a b:Int}(hb:now<b)(h:lv S n now a<lv S n now b):a<st S n now b:=by
 have hl:lv S n now a<n:=Nat.lt_of_lt_of_le h (SD _ _ _ _);have e:=lv_eq hl;have p:=pow_pos hS (lv S n now a+1);have q:=lt_st hS (n:=n) hb;have a1:a<(now/S ^ (lv S n now a+1)+1) * S ^ (lv S n now a+1):=by rw[e];exact Int.lt_ediv_add_one_mul_self a p
 have ee:S ^ lv S n now b=S ^ (lv S n now b-(lv S n now a+1)) * S ^ (lv S n now a+1):=by rw[←Int.pow_add];congr 1;omega
 have b1:st S n now b=(b/S ^ lv S n now b * S ^ (lv S n now b-(lv S n now a+1))) * S ^ (lv S n now a+1):=by
  unfold st;rw[Int.mul_assoc,←ee]
 have b2:now/S ^ (lv S n now a+1)<b/S ^ lv S n now b * S ^ (lv S n now b-(lv S n now a+1)):=(Int.ediv_lt_iff_lt_mul p).mpr (by rw[←b1];exact q);have b3:(now/S ^ (lv S n now a+1)+1) * S ^ (lv S n now a+1)<=(b/S ^ lv S n now b * S ^ (lv S n now b-(lv S n now a+1))) * S ^ (lv S n now a+1):=Int.mul_le_mul_of_nonneg_right (by omega) (Int.le_of_lt p);rw[b1];omega
theorem lv_same{S:Int}(hS:0<S){n:Nat}{now a b:Int}(h:lv S n now a=lv S n now b)(hs:st S n now a<st S n now b):a<st S n now b:=by
 unfold st at hs ⊢;rw[h] at hs;have p:=pow_pos hS (lv S n now b);have lt:a/S ^ lv S n now b<b/S ^ lv S n now b:=by
  rcases Int.lt_or_le (a/S ^ lv S n now b) (b/S ^ lv S n now b) with z|z
  ·exact z
  ·have:=Int.mul_le_mul_of_nonneg_right z (Int.le_of_lt p);omega
 exact(Int.ediv_lt_iff_lt_mul p).mp lt
theorem st_inj{S:Int}(hS:0<S){n:Nat}{now a b:Int}(ha:now<a)(hb:now<b)(hs:st S n now a=st S n now b):lv S n now a=lv S n now b:=by
 rcases Nat.lt_trichotomy (lv S n now a) (lv S n now b) with h|h|h
 ·have:=UA hS hb h;have:=Tt hS n now a;omega
 ·exact h
 ·have:=UA hS ha h;have:=Tt hS n now b;omega
theorem st_lt{S:Int}(hS:0<S){n:Nat}{now a b:Int}(ha:now<a)(hb:now<b)(hs:st S n now a<st S n now b):a<st S n now b:=by
 rcases Nat.lt_trichotomy (lv S n now a) (lv S n now b) with h|h|h
 ·exact UA hS hb h
 ·exact lv_same hS h hs
 ·have:=UA hS ha h;have:=Tt hS n now b;omega
end Rk
end
section
namespace Rk
open Mir
structure RowS where
 span:Int
 filled:Dct (List Int)
 rising:List Int
noncomputable def pos(l:List Int)(v:Int):Nat:=l.countP (λx=>decide (x<v))
noncomputable def TQ(l:List Int)(i:Nat)(v:Int):List Int:=l.take i++v::l.drop i
noncomputable def putN(ns:List Int)(n:Int):List Int:=if n∈ns then ns else ns++[n]
noncomputable def ZR(ns:List Int)(n:Int):List Int:=ns.filter λx=> !decide (x=n)
noncomputable def Yg(r:RowS)(s:Int):RowS:=if (get r.filled s).isSome=true then r else ⟨r.span,put r.filled s [],TQ r.rising (pos r.rising s) s⟩
noncomputable def Xn(r:RowS)(s:Int)(ns:List Int):RowS:=⟨r.span,put r.filled s ns,r.rising⟩
noncomputable def Tg(r:RowS)(n s:Int):RowS:=Xn (Yg r s) s (putN ((get (Yg r s).filled s).getD []) n)
noncomputable def VD(r:RowS)(s:Int):RowS:=⟨r.span,drop r.filled s,r.rising.eraseIdx (pos r.rising s)⟩
noncomputable def YL(r:RowS)(n s:Int):RowS:=
 if ZR ((get r.filled s).getD []) n=[] then VD (Xn r s (ZR ((get r.filled s).getD []) n)) s else Xn r s (ZR ((get r.filled s).getD []) n)
theorem pos_le(l:List Int)(v:Int):pos l v<=l.length:=List.countP_le_length
theorem VT{v:Int}:∀{l:List Int},l.Pairwise (·<·)->∀(i:Nat) x,l[i]?=some x->(x<v↔i<pos l v)
 |[],_,i,x,h=>by simp at h
 |a::r,hp,i,x,h=>by
  obtain⟨h1,h2⟩:=List.pairwise_cons.mp hp;have ih:=VT (v:=v) h2;by_cases ha:a<v
  ·have e:pos (a::r) v=pos r v+1:=by unfold pos;rw[List.countP_cons_of_pos (by simpa using ha)]
   rw[e];cases i with
   |zero=>simp at h;subst h;simp[ha]
   |succ i=>
    have:=ih i x (by simpa using h);omega
  ·have e0:pos (a::r) v=pos r v:=by unfold pos;rw[List.countP_cons_of_neg (by simpa using ha)]
   have e1:pos r v=0:=by
    unfold pos;rw[List.countP_eq_zero];intro y hy;have:=h1 y hy;simp;omega
   rw[e0,e1];cases i with
   |zero=>simp at h;subst h;simp;omega
   |succ i=>
    have hm:x∈r:=List.mem_of_getElem? (by simpa using h);have:=h1 x hm;omega
theorem mem_take_lt{l:List Int}{v:Int}(hp:l.Pairwise (·<·)){x:Int}(h:x∈l.take (pos l v)):x<v:=by
 obtain⟨i,hi,e⟩:=List.mem_take_iff_getElem.mp h;refine(VT hp i x ?_).mpr (by omega);rw[←e];simp
theorem mem_drop_ge{l:List Int}{v:Int}(hp:l.Pairwise (·<·)){x:Int}(h:x∈l.drop (pos l v)):v<=x:=by
 obtain⟨i,hi,e⟩:=List.mem_drop_iff_getElem.mp h;have q:=(VT (v:=v) hp (pos l v+i) x (by rw[←e];simp));omega
theorem mem_insAt{l:List Int}{i:Nat}{v x:Int}:x∈TQ l i v↔x=v\/x∈l:=by
 unfold TQ;constructor
 ·intro h;rcases List.mem_append.mp h with h|h
  ·exact .inr (List.mem_of_mem_take h)
  ·rcases List.mem_cons.mp h with h|h
   ·exact .inl h
   ·exact .inr (List.mem_of_mem_drop h)
 ·rintro(rfl|h)
  ·exact List.mem_append.mpr (.inr List.mem_cons_self)
  ·have:x∈l.take i++l.drop i:=by rw[List.take_append_drop];exact h
   rcases List.mem_append.mp this with q|q
   ·exact List.mem_append.mpr (.inl q)
   ·exact List.mem_append.mpr (.inr (List.mem_cons_of_mem _ q))
theorem srt_insAt{l:List Int}{v:Int}(hp:l.Pairwise (·<·))(hv:v∉l):(TQ l (pos l v) v).Pairwise (·<·):=by
 unfold TQ;have hd:∀x∈l.drop (pos l v),v<x:=λx hx=>by
  have:=mem_drop_ge hp hx;have:x≠v:=λz=>hv (z▸List.mem_of_mem_drop hx);omega
 refine List.pairwise_append.mpr ⟨hp.sublist (List.take_sublist _ _),List.pairwise_cons.mpr ⟨hd,hp.sublist (List.drop_sublist _ _)⟩,λa ha b hb=>?_⟩;have h1:=mem_take_lt hp ha;rcases List.mem_cons.mp hb with rfl|hb
 ·exact h1
 ·have:=hd b hb;omega
theorem at_pos{l:List Int}{v:Int}(hp:l.Pairwise (·<·))(hv:v∈l):l[pos l v]?=some v:=by
 obtain⟨i,hi,e⟩:=List.mem_iff_getElem.mp hv;have q:=VT (v:=v) hp i v (by rw[←e];simp[hi]);have hle:pos l v<=i:=by omega
 rcases Nat.lt_or_ge (pos l v) i with z|z
 ·have hj:pos l v<l.length:=by omega
  have q2:=VT (v:=v) hp (pos l v) l[pos l v] (by simp[hj]);have q3:l[pos l v]<l[i]:=List.pairwise_iff_getElem.mp hp _ _ hj hi z;omega
 ·have e2:pos l v=i:=by omega
  rw[e2,←e];simp[hi]
theorem YO{l:List Int}(hp:l.Pairwise (·<·)):l.Nodup:=hp.imp λh=>Int.ne_of_lt h
theorem Qy{l:List Int}{v x:Int}(hp:l.Pairwise (·<·))(hv:v∈l):x∈l.eraseIdx (pos l v)↔x∈l/\x≠v:=by
 have e:=at_pos hp hv;obtain⟨hk,ev⟩:=List.getElem?_eq_some_iff.mp e;rw[List.mem_eraseIdx_iff_getElem];constructor
 ·rintro⟨i,hi,hne,rfl⟩;refine⟨List.getElem_mem hi,λz=>?_⟩;rcases Nat.lt_trichotomy i (pos l v) with q|q|q
  ·have:=List.pairwise_iff_getElem.mp hp _ _ hi hk q;omega
  ·exact hne q
  ·have:=List.pairwise_iff_getElem.mp hp _ _ hk hi q;omega
 ·rintro⟨hm,hne⟩;obtain⟨i,hi,rfl⟩:=List.mem_iff_getElem.mp hm;exact⟨i,hi,λz=>hne (by subst z;exact ev),rfl⟩
theorem srt_eq{l m:List Int}(hl:l.Pairwise (·<·))(hm:m.Pairwise (·<·))(h:∀x,x∈l↔x∈m):l=m:=by
 have hp:l.Perm m:=by
  rw[List.perm_iff_count];intro a;by_cases ha:a∈l
  ·rw[List.Nodup.count (YO hl),List.Nodup.count (YO hm),if_pos ha,if_pos ((h a).mp ha)]
  ·rw[List.Nodup.count (YO hl),List.Nodup.count (YO hm),if_neg ha,if_neg λz=>ha ((h a).mpr z)]
 exact hp.eq_of_pairwise (λa b _ _ h1 h2=>by omega) hl hm
theorem Vc{l m:List Int}(hp:l.Perm m)(hs:l.Pairwise (·<=·))(hn:m.Nodup):l.Pairwise (·<·)/\∀x,x∈l↔x∈m:=by
 have hn':l.Nodup:=hp.nodup_iff.mpr hn;exact⟨hs.imp₂ (λa b h1 h2=>by omega) hn',λx=>hp.mem_iff⟩
structure RowOK(r:RowS)(g:Int->Option Int):Prop where
 sp:0<r.span
 ndk:(keys r.filled).Nodup
 srt:r.rising.Pairwise (·<·)
 mem:∀s,s∈r.rising↔(get r.filled s).isSome=true
 nd:∀s ns,get r.filled s=some ns->ns.Nodup
 ne:∀s ns,get r.filled s=some ns->ns≠[]
 has:∀n s,(∃ns,get r.filled s=some ns/\n∈ns)↔∃t,g n=some t/\t/r.span=s
noncomputable def gput(g:Int->Option Int)(n:Int)(o:Option Int):Int->Option Int:=λm=>if m=n then o else g m
theorem mem_putN{ns:List Int}{n m:Int}:m∈putN ns n↔m=n\/m∈ns:=by
 unfold putN;by_cases h:n∈ns
 ·rw[if_pos h];exact⟨.inr,λz=>z.elim (λe=>e▸h) id⟩
 ·rw[if_neg h,List.mem_append,List.mem_singleton];exact⟨λz=>z.elim .inr .inl,λz=>z.elim .inr .inl⟩
theorem nd_putN{ns:List Int}{n:Int}(h:ns.Nodup):(putN ns n).Nodup:=by
 unfold putN;by_cases hn:n∈ns
 ·rw[if_pos hn];exact h
 ·rw[if_neg hn,List.nodup_append];refine⟨h,by simp,λa ha b hb e=>?_⟩;have:b=n:=by simpa using hb
  subst this;exact hn (e▸ha)
theorem mem_dropN{ns:List Int}{n m:Int}:m∈ZR ns n↔m∈ns/\m≠n:=by
 unfold ZR;rw[List.mem_filter];simp
theorem Tf(r:RowS)(s x:Int):get (Yg r s).filled x=if x=s then some ((get r.filled s).getD []) else get r.filled x:=by
 unfold Yg;by_cases h:(get r.filled s).isSome=true
 ·rw[if_pos h];by_cases e:x=s
  ·subst e;rw[if_pos rfl];obtain⟨v,hv⟩:=Option.isSome_iff_exists.mp h;rw[hv];rfl
  ·rw[if_neg e]
 ·rw[if_neg h];show get (put r.filled s []) x=_;rw[ZD];have hn:get r.filled s=none:=by simpa using h
  rw[hn];rfl
theorem Ut(r:RowS)(s:Int):(Yg r s).span=r.span:=by unfold Yg;by_cases h:(get r.filled s).isSome=true<;>simp[h]
theorem slotIn_mem{r:RowS}{g:Int->Option Int}(R:RowOK r g)(s x:Int):x∈(Yg r s).rising↔x=s\/x∈r.rising:=by
 unfold Yg;by_cases h:(get r.filled s).isSome=true
 ·rw[if_pos h];exact⟨.inr,λz=>z.elim (λe=>e▸(R.mem s).mpr h) id⟩
 ·rw[if_neg h];exact mem_insAt
theorem slotIn_srt{r:RowS}{g:Int->Option Int}(R:RowOK r g)(s:Int):(Yg r s).rising.Pairwise (·<·):=by
 unfold Yg;by_cases h:(get r.filled s).isSome=true
 ·rw[if_pos h];exact R.srt
 ·rw[if_neg h];exact srt_insAt R.srt λz=>h ((R.mem s).mp z)
theorem slotIn_ndk{r:RowS}{g:Int->Option Int}(R:RowOK r g)(s:Int):(keys (Yg r s).filled).Nodup:=by
 unfold Yg;by_cases h:(get r.filled s).isSome=true
 ·rw[if_pos h];exact R.ndk
 ·rw[if_neg h];exact Ya R.ndk _ _
theorem Uc(r:RowS)(n s x:Int):get (Tg r n s).filled x=if x=s then some (putN ((get r.filled s).getD []) n) else get r.filled x:=by
 show get (put (Yg r s).filled s _) x=_;rw[ZD,Tf,Tf];by_cases e:x=s
 ·simp[e]
 ·simp[e]
theorem rowPut_ok{r:RowS}{g:Int->Option Int}(R:RowOK r g){n t:Int}(hn:g n=none):RowOK (Tg r n (t/r.span)) (gput g n (some t)) where
 sp:=by show 0<(Yg r _).span;rw[Ut];exact R.sp
 ndk:=Ya (slotIn_ndk R _) _ _
 srt:=slotIn_srt R _
 mem:=λs=>by
  show s∈(Yg r _).rising↔_;rw[slotIn_mem R,Uc];by_cases e:s=t/r.span
  ·simp[e]
  ·simp only[e,false_or,if_false];exact R.mem s
 nd:=λs ns h=>by
  rw[Uc] at h;by_cases e:s=t/r.span
  ·rw[if_pos e] at h;cases h;refine nd_putN ?_;cases q:get r.filled (t/r.span) with
   |none=>simp
   |some l=>exact R.nd _ _ q
  ·rw[if_neg e] at h;exact R.nd _ _ h
 ne:=λs ns h z=>by
  rw[Uc] at h;by_cases e:s=t/r.span
  ·rw[if_pos e] at h;cases h;have:n∈putN ((get r.filled (t/r.span)).getD []) n:=mem_putN.mpr (.inl rfl);rw[z] at this;cases this
  ·rw[if_neg e] at h;exact R.ne _ _ h z
 has:=λm s=>by
  have hsp:(Tg r n (t/r.span)).span=r.span:=Ut _ _;rw[Uc,hsp];have key:=R.has m s;by_cases em:m=n
  ·subst em;have no: ¬∃ns,get r.filled s=some ns/\m∈ns:=λz=>by
    obtain⟨t',ht,_⟩:=key.mp z;rw[hn] at ht;cases ht
   simp only[gput,if_true];constructor
   ·rintro⟨ns,h,hm⟩;by_cases e:s=t/r.span
    ·exact⟨t,rfl,e.symm⟩
    ·rw[if_neg e] at h;exact(no ⟨ns,h,hm⟩).elim
   ·rintro⟨t',e1,e2⟩;cases e1;rw[if_pos e2.symm];exact⟨_,rfl,mem_putN.mpr (.inl rfl)⟩
  ·simp only[gput,if_neg em];rw[←key];by_cases e:s=t/r.span
   ·subst e;rw[if_pos rfl];constructor
    ·rintro⟨ns,h,hm⟩;cases h;rcases mem_putN.mp hm with z|z
     ·exact(em z).elim
     ·cases q:get r.filled (t/r.span) with
      |none=>rw[q] at z;cases z
      |some l=>exact⟨l,rfl,by rw[q] at z;exact z⟩
    ·rintro⟨ns,h,hm⟩;refine⟨_,rfl,mem_putN.mpr (.inr ?_)⟩;rw[h];exact hm
   ·rw[if_neg e]
theorem slotOut_ok{r:RowS}{g:Int->Option Int}(R:RowOK r g){s:Int}(hs:s∈r.rising):RowOK (VD r s) (λn=>(g n).filter λt=> !decide (t/r.span=s)) where
 sp:=R.sp
 ndk:=ZL R.ndk _
 srt:=R.srt.sublist (List.eraseIdx_sublist _ _)
 mem:=λx=>by
  show x∈r.rising.eraseIdx (pos r.rising s)↔(get (drop r.filled s) x).isSome=true;rw[Qy R.srt hs,Zy,R.mem x];by_cases e:x=s<;>simp[e]
 nd:=λx ns h=>by
  have h':get (drop r.filled s) x=some ns:=h;rw[Zy] at h';by_cases e:x=s
  ·rw[if_pos e] at h';cases h'
  ·rw[if_neg e] at h';exact R.nd _ _ h'
 ne:=λx ns h=>by
  have h':get (drop r.filled s) x=some ns:=h;rw[Zy] at h';by_cases e:x=s
  ·rw[if_pos e] at h';cases h'
  ·rw[if_neg e] at h';exact R.ne _ _ h'
 has:=λm x=>by
  show (∃ns,get (drop r.filled s) x=some ns/\m∈ns)↔_;rw[Zy];have key:=R.has m x;by_cases e:x=s
  ·rw[if_pos e];constructor
   ·rintro⟨ns,h,_⟩;cases h
   ·rintro⟨t,h,h2⟩;rw[Option.filter_eq_some_iff] at h;have: ¬t/r.span=s:=by simpa using h.2
    exact(this (h2.trans e)).elim
  ·rw[if_neg e,key];constructor
   ·rintro⟨t,h,h2⟩;refine⟨t,?_,h2⟩;rw[Option.filter_eq_some_iff];exact⟨h,by simp;rw[show r.span=(VD r s).span from rfl] at h2;intro z;exact e (h2▸z)⟩
   ·rintro⟨t,h,h2⟩;rw[Option.filter_eq_some_iff] at h;exact⟨t,h.1,h2⟩
theorem rowTake_get(r:RowS)(n s x:Int):get (YL r n s).filled x=if x=s then (if ZR ((get r.filled s).getD []) n=[] then none else some (ZR ((get r.filled s).getD []) n)) else get r.filled x:=by
 unfold YL;by_cases h:ZR ((get r.filled s).getD []) n=[]
 ·rw[if_pos h,if_pos h];show get (drop (put r.filled s _) s) x=_;rw[Zy,ZD];by_cases e:x=s<;>simp[e]
 ·rw[if_neg h,if_neg h];show get (put r.filled s _) x=_;rw[ZD]
theorem rowTake_ok{r:RowS}{g:Int->Option Int}(R:RowOK r g){n t:Int}(hn:g n=some t):RowOK (YL r n (t/r.span)) (gput g n none):=by
 obtain⟨ns,hns,hm⟩:=(R.has n (t/r.span)).mpr ⟨t,hn,rfl⟩;have hs:t/r.span∈r.rising:=(R.mem _).mpr (by rw[hns];rfl);have G:=rowTake_get r n (t/r.span);rw[hns] at G;simp only[Option.getD_some] at G;have sp:(YL r n (t/r.span)).span=r.span:=by unfold YL;by_cases h:ZR ((get r.filled (t/r.span)).getD []) n=[]<;>simp[h,VD,Xn]
 have ri:∀x,x∈(YL r n (t/r.span)).rising↔x∈r.rising/\(x=t/r.span->ZR ns n≠[]):=λx=>by
  unfold YL;rw[hns];simp only[Option.getD_some];by_cases h:ZR ns n=[]
  ·rw[if_pos h];show x∈r.rising.eraseIdx (pos r.rising (t/r.span))↔_;rw[Qy R.srt hs];simp[h]
  ·rw[if_neg h];show x∈r.rising↔_;simp[h]
 refine⟨by rw[sp];exact R.sp,?_,?_,λx=>?_,λx l h=>?_,λx l h=>?_,λm x=>?_⟩
 ·unfold YL;by_cases h:ZR ((get r.filled (t/r.span)).getD []) n=[]
  ·rw[if_pos h];exact ZL (Ya R.ndk _ _) _
  ·rw[if_neg h];exact Ya R.ndk _ _
 ·unfold YL;by_cases h:ZR ((get r.filled (t/r.span)).getD []) n=[]
  ·rw[if_pos h];exact R.srt.sublist (List.eraseIdx_sublist _ _)
  ·rw[if_neg h];exact R.srt
 ·rw[ri,G,R.mem x];by_cases e:x=t/r.span
  ·rw[if_pos e];subst e;by_cases h:ZR ns n=[]<;>simp[h,hns]
  ·simp[e]
 ·rw[G] at h;by_cases e:x=t/r.span
  ·rw[if_pos e] at h;by_cases h0:ZR ns n=[]
   ·rw[if_pos h0] at h;cases h
   ·rw[if_neg h0] at h;cases h;exact(R.nd _ _ hns).sublist List.filter_sublist
  ·rw[if_neg e] at h;exact R.nd _ _ h
 ·rw[G] at h;by_cases e:x=t/r.span
  ·rw[if_pos e] at h;by_cases h0:ZR ns n=[]
   ·rw[if_pos h0] at h;cases h
   ·rw[if_neg h0] at h;cases h;exact h0
  ·rw[if_neg e] at h;exact R.ne _ _ h
 ·rw[G,sp];have key:=R.has m x;have step:(∃l,(if x=t/r.span then (if ZR ns n=[] then none else some (ZR ns n)) else get r.filled x)=some l/\m∈l)↔(∃l,get r.filled x=some l/\m∈l)/\(x=t/r.span->m≠n):=by
   by_cases e:x=t/r.span
   ·subst e;rw[if_pos rfl];constructor
    ·rintro⟨l,h,hl⟩;by_cases h0:ZR ns n=[]
     ·rw[if_pos h0] at h;cases h
     ·rw[if_neg h0] at h;cases h;obtain⟨a,b⟩:=mem_dropN.mp hl;exact⟨⟨ns,hns,a⟩,λ_=>b⟩
    ·rintro⟨⟨l,h,hl⟩,hne⟩;rw[hns] at h;cases h;have:m∈ZR ns n:=mem_dropN.mpr ⟨hl,hne rfl⟩;have h0:ZR ns n≠[]:=λz=>by rw[z] at this;cases this
     rw[if_neg h0];exact⟨_,rfl,this⟩
   ·rw[if_neg e];exact⟨λz=>⟨z,λq=>(e q).elim⟩,λz=>z.1⟩
  rw[step,key];unfold gput;by_cases em:m=n
  ·subst em;rw[if_pos rfl];constructor
   ·rintro⟨⟨t',h1,h2⟩,h3⟩;rw[hn] at h1;cases h1;exact(h3 h2.symm rfl).elim
   ·rintro⟨t',h1,_⟩;cases h1
  ·rw[if_neg em];exact⟨λz=>z.1,λz=>⟨z,λ_=>em⟩⟩
theorem YZ{r:RowS}{g g':Int->Option Int}(R:RowOK r g)(h:∀n,g n=g' n):RowOK r g':=by
 have:g=g':=funext h;exact this▸R
theorem row_small{r:RowS}{g:Int->Option Int}(R:RowOK r g){N:Nat}(dom:∀n t,g n=some t->0<=n/\n<N):r.rising.length<=N/\r.filled.length<=N/\∀s ns,get r.filled s=some ns->ns.length<=N:=by
 have rng:∀n t,g n=some t->n∈(List.range N).map (λ(i:Nat)=>(i:Int)):=λn t h=>by
  obtain⟨a,b⟩:=dom n t h;exact List.mem_map.mpr ⟨n.toNat,List.mem_range.mpr (by omega),by omega⟩
 have c1:∀s ns,get r.filled s=some ns->ns.length<=N:=λs ns h=>by
  have q:=(R.nd s ns h).length_le_of_subset (l₂:=(List.range N).map (λ(i:Nat)=>(i:Int))) λn hn=>by
   obtain⟨t,ht,_⟩:=(R.has n s).mp ⟨ns,h,hn⟩;exact rng n t ht
  simpa using q
 have pick:∀s,s∈r.rising->∃n t,g n=some t/\t/r.span=s:=λs hs=>by
  obtain⟨ns,h⟩:=Option.isSome_iff_exists.mp ((R.mem s).mp hs);cases e:ns with
  |nil=>exact(R.ne s ns h e).elim
  |cons n l=>
   obtain⟨t,ht,h2⟩:=(R.has n s).mp ⟨ns,h,by rw[e];exact List.mem_cons_self⟩;exact⟨n,t,ht,h2⟩
 have c2:∀l:List Int,l.Nodup->(∀s∈l,s∈r.rising)->∃m:List Int,m.length=l.length/\m.Nodup/\∀n∈m,∃t,g n=some t/\t/r.span∈l:=by
  intro l;induction l with
  |nil=>exact λ_ _=>⟨[],rfl,List.nodup_nil,λn h=>by cases h⟩
  |cons s l ih=>
   intro hn hs;obtain⟨h1,h2⟩:=List.nodup_cons.mp hn;obtain⟨m,hl,hm,hg⟩:=ih h2 λx hx=>hs x (List.mem_cons_of_mem _ hx);obtain⟨n,t,ht,hts⟩:=pick s (hs s List.mem_cons_self);refine⟨n::m,by simp[hl],List.nodup_cons.mpr ⟨λz=>?_,hm⟩,λx hx=>?_⟩
   ·obtain⟨t',ht',hx⟩:=hg n z;rw[ht] at ht';cases ht';rw[hts] at hx;exact h1 hx
   ·rcases List.mem_cons.mp hx with rfl|hx
    ·exact⟨t,ht,by rw[hts];exact List.mem_cons_self⟩
    ·obtain⟨t',a,b⟩:=hg x hx;exact⟨t',a,List.mem_cons_of_mem _ b⟩
 have c3:r.rising.length<=N:=by
  obtain⟨m,hl,hm,hg⟩:=c2 r.rising (YO R.srt) λ_ h=>h;have q:=hm.length_le_of_subset (l₂:=(List.range N).map (λ(i:Nat)=>(i:Int))) λn hn=>by
   obtain⟨t,ht,_⟩:=hg n hn;exact rng n t ht
  rw[hl] at q;simpa using q
 refine⟨c3,?_,c1⟩;have q:=R.ndk.length_le_of_subset (l₂:=r.rising) λs hs=>(R.mem s).mpr (by
  cases e:get r.filled s with
  |none=>exact(get_none.mp e hs).elim
  |some v=>rfl)
 have e:(keys r.filled).length=r.filled.length:=by simp[keys]
 omega
end Rk
end
section
namespace Rk
open Mir
noncomputable def fil(S:Int)(n:Nat)(now:Int)(f:Int->Option Int)(i:Nat):Int->Option Int:=λk=>(f k).filter λt=>decide (lv S n now t=i)
theorem fil_some{S:Int}{n:Nat}{now:Int}{f:Int->Option Int}{i:Nat}{k t:Int}:fil S n now f i k=some t↔f k=some t/\lv S n now t=i:=by
 unfold fil;rw[Option.filter_eq_some_iff];simp
structure RackOK(S:Int)(n:Nat)(now:Int)(rows:List RowS)(f:Int->Option Int):Prop where
 hS:2<=S
 len:rows.length=n+1
 span:∀(i:Nat) r,rows[i]?=some r->r.span=S ^ i
 row:∀(i:Nat) r,rows[i]?=some r->RowOK r (fil S n now f i)
 ahead:∀k t,f k=some t->now<t
 dom:∀k t,f k=some t->0<=k/\k<63
section
variable {S:Int}{n:Nat}{now:Int}{rows:List RowS}{f:Int->Option Int}
theorem RackOK.pS(R:RackOK S n now rows f):0<S:=by have:=R.hS;omega
theorem RackOK.at(R:RackOK S n now rows f){i:Nat}(h:i<=n):∃r,rows[i]?=some r:=by
 have:i<rows.length:=by have:=R.len;omega
 exact⟨rows[i],by simp[this]⟩
theorem Sd{r:RowS}{L i:Nat}{r':RowS}(h:rows[L]?=some r)(e:(rows.set L r')[i]?=some r''):(i=L/\r''=r')\/(i≠L/\rows[i]?=some r''):=by
 rw[List.getElem?_set] at e;by_cases hi:L=i
 ·subst hi;have hl:L<rows.length:=(List.getElem?_eq_some_iff.mp h).1;rw[if_pos rfl,if_pos hl] at e;exact .inl ⟨rfl,(Option.some.inj e).symm⟩
 ·rw[if_neg hi] at e;exact .inr ⟨λz=>hi z.symm,e⟩
theorem RackOK.put(R:RackOK S n now rows f){k t:Int}{r:RowS}(hk:f k=none)(ht:now<t)(hd:0<=k/\k<63)(hr:rows[lv S n now t]?=some r):
  RackOK S n now (rows.set (lv S n now t) (Tg r k (t/r.span))) (gput f k (some t)) where
 hS:=R.hS
 len:=by rw[List.length_set];exact R.len
 span:=λi r' e=>by
  rcases Sd hr e with ⟨rfl,rfl⟩|⟨_,e⟩
  ·show (Yg r _).span=_;rw[Ut];exact R.span _ _ hr
  ·exact R.span i r' e
 row:=λi r' e=>by
  rcases Sd hr e with ⟨rfl,rfl⟩|⟨hi,e⟩
  ·refine YZ (rowPut_ok (R.row _ _ hr) (n:=k) (t:=t) ?_) λm=>?_
   ·unfold fil;rw[hk];rfl
   ·unfold gput fil;by_cases em:m=k
    ·simp[em,Option.filter]
    ·simp[em]
  ·refine YZ (R.row i r' e) λm=>?_;unfold gput fil;dsimp only;by_cases em:m=k
   ·subst em;rw[if_pos rfl,hk];simp[Option.filter,Ne.symm hi]
   ·rw[if_neg em]
 ahead:=λm t' e=>by
  unfold gput at e;by_cases em:m=k
  ·rw[if_pos em] at e;cases e;exact ht
  ·rw[if_neg em] at e;exact R.ahead m t' e
 dom:=λm t' e=>by
  unfold gput at e;by_cases em:m=k
  ·rw[if_pos em] at e;cases e;rw[em];exact hd
  ·rw[if_neg em] at e;exact R.dom m t' e
theorem RackOK.take(R:RackOK S n now rows f){k t:Int}{r:RowS}(hk:f k=some t)(hr:rows[lv S n now t]?=some r):
  RackOK S n now (rows.set (lv S n now t) (YL r k (t/r.span))) (gput f k none) where
 hS:=R.hS
 len:=by rw[List.length_set];exact R.len
 span:=λi r' e=>by
  rcases Sd hr e with ⟨rfl,rfl⟩|⟨_,e⟩
  ·have:(YL r k (t/r.span)).span=r.span:=by unfold YL;by_cases h:ZR ((get r.filled (t/r.span)).getD []) k=[]<;>simp[h,VD,Xn]
   rw[this];exact R.span _ _ hr
  ·exact R.span i r' e
 row:=λi r' e=>by
  rcases Sd hr e with ⟨rfl,rfl⟩|⟨hi,e⟩
  ·refine YZ (rowTake_ok (R.row _ _ hr) (n:=k) (t:=t) ?_) λm=>?_
   ·exact fil_some.mpr ⟨hk,rfl⟩
   ·unfold gput fil;by_cases em:m=k
    ·simp[em,Option.filter]
    ·simp[em]
  ·refine YZ (R.row i r' e) λm=>?_;unfold gput fil;dsimp only;by_cases em:m=k
   ·subst em;rw[if_pos rfl,hk];simp[Option.filter,Ne.symm hi]
   ·rw[if_neg em]
 ahead:=λm t' e=>by
  unfold gput at e;by_cases em:m=k
  ·rw[if_pos em] at e;cases e
  ·rw[if_neg em] at e;exact R.ahead m t' e
 dom:=λm t' e=>by
  unfold gput at e;by_cases em:m=k
  ·rw[if_pos em] at e;cases e
  ·rw[if_neg em] at e;exact R.dom m t' e
theorem RackOK.out(R:RackOK S n now rows f){L:Nat}{r:RowS}{s:Int}(hr:rows[L]?=some r)(hs:s∈r.rising):
  RackOK S n now (rows.set L (VD r s)) (λk=>(f k).filter λt=> !decide (lv S n now t=L/\t/S ^ L=s)) where
 hS:=R.hS
 len:=by rw[List.length_set];exact R.len
 span:=λi r' e=>by
  rcases Sd hr e with ⟨rfl,rfl⟩|⟨_,e⟩
  ·show r.span=_;exact R.span _ _ hr
  ·exact R.span i r' e
 row:=λi r' e=>by
  rcases Sd hr e with ⟨rfl,rfl⟩|⟨hi,e⟩
  ·refine YZ (slotOut_ok (R.row _ _ hr) hs) λm=>?_;rw[R.span _ _ hr];unfold fil;dsimp only;cases f m with
   |none=>rfl
   |some t=>
    by_cases h1:lv S n now t=i
    ·by_cases h2:t/S ^ i=s<;>simp[Option.filter,h1,h2]
    ·simp[Option.filter,h1]
  ·refine YZ (R.row i r' e) λm=>?_;unfold fil;dsimp only;cases f m with
   |none=>rfl
   |some t=>
    by_cases h1:lv S n now t=i
    ·have: ¬lv S n now t=L:=λz=>hi (h1.symm.trans z);simp[Option.filter,h1,hi]
    ·by_cases h2:lv S n now t=L/\t/S ^ L=s<;>simp[Option.filter,h1,h2,Ne.symm hi]
 ahead:=λm t' e=>by
  rw[Option.filter_eq_some_iff] at e;exact R.ahead m t' e.1
 dom:=λm t' e=>by
  rw[Option.filter_eq_some_iff] at e;exact R.dom m t' e.1
theorem RackOK.later(R:RackOK S n now rows f){now':Int}(h1:now<=now')(h2:∀k t,f k=some t->now'<st S n now t):RackOK S n now' rows f where
 hS:=R.hS
 len:=R.len
 span:=R.span
 row:=λi r e=>YZ (R.row i r e) λm=>by
  unfold fil;cases e:f m with
  |none=>rfl
  |some t=>simp[Option.filter,lv_stay R.pS h1 (h2 m t e)]
 ahead:=λk t e=>Int.lt_of_lt_of_le (h2 k t e) (Tt R.pS n now t)
 dom:=R.dom
theorem RackOK.congr{f':Int->Option Int}(R:RackOK S n now rows f)(h:∀k,f k=f' k):RackOK S n now rows f':=by
 have:f=f':=funext h;exact this▸R
theorem RackOK.none_first(R:RackOK S n now rows f)(h:∀(i:Nat) r,rows[i]?=some r->r.rising=[]):∀k,f k=none:=λk=>by
 cases e:f k with
 |none=>rfl
 |some t=>
  obtain⟨r,hr⟩:=R.at (SD S n now t);have Q:=R.row _ _ hr;obtain⟨ns,h1,h2⟩:=(Q.has k (t/r.span)).mpr ⟨t,fil_some.mpr ⟨e,rfl⟩,rfl⟩;have:=(Q.mem (t/r.span)).mpr (by rw[h1];rfl);rw[h _ r hr] at this;cases this
structure First(S:Int)(n:Nat)(now:Int)(f:Int->Option Int)(L:Nat)(s:Int):Prop where
 le:L<=n
 one:∃k t,f k=some t/\lv S n now t=L/\t/S ^ L=s
 least:∀k t,f k=some t->s * S ^ L<=st S n now t
 just:∀k t,f k=some t->(st S n now t=s * S ^ L↔lv S n now t=L/\t/S ^ L=s)
theorem RackOK.first(R:RackOK S n now rows f){L:Nat}{r:RowS}{s:Int}(hr:rows[L]?=some r)(hs:r.rising[0]?=some s)(low:∀(i:Nat) r',i<L->rows[i]?=some r'->r'.rising=[]):First S n now f L s:=by
 have Q:=R.row _ _ hr;have sp:=R.span _ _ hr;have hm:s∈r.rising:=List.mem_of_getElem? hs;have hL:L<=n:=by have:=(List.getElem?_eq_some_iff.mp hr).1;have:=R.len;omega
 obtain⟨ns,hns⟩:=Option.isSome_iff_exists.mp ((Q.mem s).mp hm);obtain⟨k0,t0,h0,l0,d0⟩:∃k t,f k=some t/\lv S n now t=L/\t/S ^ L=s:=by
  cases e:ns with
  |nil=>exact(Q.ne s ns hns e).elim
  |cons k l=>
   obtain⟨t,ht,h2⟩:=(Q.has k s).mp ⟨ns,hns,by rw[e];exact List.mem_cons_self⟩;obtain⟨a,b⟩:=fil_some.mp ht;exact⟨k,t,a,b,by rw[←sp];exact h2⟩
 have s0:st S n now t0=s * S ^ L:=by unfold st;rw[l0,d0]
 have ge:∀k t,f k=some t->L<=lv S n now t:=λk t e=>by
  rcases Nat.lt_or_ge (lv S n now t) L with z|z
  ·obtain⟨r',hr'⟩:=R.at (SD S n now t);have Q':=R.row _ _ hr';obtain⟨ns',h1,h2⟩:=(Q'.has k (t/r'.span)).mpr ⟨t,fil_some.mpr ⟨e,rfl⟩,rfl⟩;have:=(Q'.mem (t/r'.span)).mpr (by rw[h1];rfl);rw[low _ r' z hr'] at this;cases this
  ·exact z
 have p:=pow_pos R.pS L;have same:∀k t,f k=some t->lv S n now t=L->s<=t/S ^ L:=λk t e hl=>by
  obtain⟨ns',h1,h2⟩:=(Q.has k (t/r.span)).mpr ⟨t,fil_some.mpr ⟨e,hl⟩,rfl⟩;have hx:=(Q.mem (t/r.span)).mpr (by rw[h1];rfl);rw[sp] at hx;obtain⟨j,hj,ej⟩:=List.mem_iff_getElem.mp hx;obtain⟨h00,es⟩:=List.getElem?_eq_some_iff.mp hs;by_cases hj0:j=0
  ·subst hj0;omega
  ·have:=List.pairwise_iff_getElem.mp Q.srt 0 j h00 hj (by omega);omega
 refine⟨hL,⟨k0,t0,h0,l0,d0⟩,λk t e=>?_,λk t e=>⟨λhst=>?_,λ⟨hl,hd⟩=>by unfold st;rw[hl,hd]⟩⟩
 ·rcases Nat.lt_or_ge L (lv S n now t) with z|z
  ·have:=UA R.pS (R.ahead k t e) (a:=t0) (by rw[l0];exact z);have:=Tt R.pS n now t0;omega
  ·have hl:lv S n now t=L:=Nat.le_antisymm z (ge k t e);have:=same k t e hl;unfold st;rw[hl];exact Int.mul_le_mul_of_nonneg_right this (Int.le_of_lt p)
 ·rw[←s0] at hst;have hl:=st_inj R.pS (R.ahead k t e) (R.ahead k0 t0 h0) hst;rw[l0] at hl;refine⟨hl,?_⟩;unfold st at hst;rw[hl,l0,d0] at hst;exact Int.eq_of_mul_eq_mul_right (Int.ne_of_gt p) hst
end
end Rk
end
section
namespace Tb
open PySem L2 Mir Rk
section
variable {α:Type}
noncomputable def mapK(f:Int->α->V)(t:Dct α):List (Key×V):=t.map λp=>(Sum.inl p.1,f p.1 p.2)
theorem ZX(f:Int->α->V)(t:Dct α)(n:Int):valV (mapK f t) (Sum.inl n)=(get t n).map (f n):=by
 induction t with
 |nil=>rfl
 |cons p t ih=>
  show valV ((Sum.inl p.1,f p.1 p.2)::mapK f t) (Sum.inl n)=_;rw[Yb];by_cases e:p.1=n
  ·rw[if_pos e,Tp (by rw[e])];rw[e];rfl
  ·rw[if_neg e,Tq (λz=>e (Sum.inl.inj z)),ih]
theorem mapK_any(f:Int->α->V)(t:Dct α)(n:Int):((mapK f t).any λkv=>decide (kv.1=Sum.inl n))=t.any λp=>decide (p.1=n):=by
 unfold mapK;rw[List.any_map];congr 1
 funext p;simp
theorem XZ(f:Int->α->V)(t:Dct α)(n:Int)(a:α):putK (mapK f t) (Sum.inl n) (f n a)=mapK f (put t n a):=by
 unfold putK put;rw[mapK_any];by_cases h:(t.any λp=>decide (p.1=n))=true
 ·rw[if_pos h,if_pos h];unfold mapK;rw[List.map_map,List.map_map];apply List.map_congr_left
  intro p _;by_cases e:p.1=n
  ·simp[e]
  ·have: ¬(Sum.inl p.1:Key)=Sum.inl n:=λz=>e (Sum.inl.inj z);simp[e]
 ·rw[if_neg h,if_neg h];unfold mapK;rw[List.map_append];rfl
theorem Xp(f:Int->α->V)(t:Dct α)(n:Int):YI (mapK f t) (Sum.inl n)=mapK f (drop t n):=by
 unfold YI drop mapK;rw[List.filter_map];congr 1
 apply List.filter_congr
 intro p _;by_cases e:p.1=n<;>simp[e]
theorem YJ(f:Int->α->V)(t:Dct α):(mapK f t).length=t.length:=List.length_map ..
end
noncomputable def numV(ns:List Int):List (Key×V):=ns.map λn=>(Sum.inl n,V.bl true)
theorem numV_any(ns:List Int)(n:Int):((numV ns).any λkv=>decide (kv.1=Sum.inl n))=decide (n∈ns):=by
 induction ns with
 |nil=>simp[numV]
 |cons a r ih=>
  show (decide ((Sum.inl a:Key)=Sum.inl n)||(numV r).any _)=_;rw[ih];by_cases e:a=n
  ·simp[e]
  ·have e2: ¬n=a:=λz=>e z.symm;simp[e,e2]
theorem putK_numV(ns:List Int)(n:Int):putK (numV ns) (Sum.inl n) (V.bl true)=numV (putN ns n):=by
 unfold putK putN;rw[numV_any];by_cases h:n∈ns
 ·rw[if_pos (by simpa using h),if_pos h];unfold numV;rw[List.map_map];apply List.map_congr_left
  intro a _;by_cases e:a=n<;>simp[e]
 ·rw[if_neg (by simpa using h),if_neg h];unfold numV;rw[List.map_append];rfl
theorem dropK_numV(ns:List Int)(n:Int):YI (numV ns) (Sum.inl n)=numV (ZR ns n):=by
 unfold YI ZR numV;rw[List.filter_map];congr 1
 apply List.filter_congr
 intro a _;by_cases e:a=n<;>simp[e]
theorem valV_numV{ns:List Int}{n:Int}(h:n∈ns):(valV (numV ns) (Sum.inl n)).isSome=true:=by
 rw[←Rm,numV_any];simpa using h
structure Cl where
 Row:Addr
 Rack:Addr
 Wheels:Addr
 Book:Addr
structure BkS where
 slots:Int
 spans:List Int
 rows:List RowS
 now:Int
 next:Int
 names:Dct Str
 steps:Dct (Option Int)
 ticks:Dct Int
 kept:Dct Int
inductive Lb where
 |book|rack|wheels|spans|rows|names|steps|ticks|kept
 |row (i:Nat)|filled (i:Nat)|rising (i:Nat)
 |slot (i:Nat) (s:Int)
deriving DecidableEq
noncomputable def XG:Option Int->V
 |none=>.non
 |some k=>.int k
noncomputable def rowF(sp:Int)(df lr:Addr):List (Str×V):=[("span",.int sp),("filled",.ref df),("rising",.ref lr)]
noncomputable def Ry(wh rl:Addr):List (Str×V):=[("wheels",.ref wh),("rows",.ref rl)]
noncomputable def Xm(s:Int)(tp:Addr):List (Str×V):=[("slots",.int s),("spans",.ref tp)]
noncomputable def SK(rk:Addr)(now next:Int)(nm st tk kp:Addr):List (Str×V):=[("rack",.ref rk),("now",.int now),("next_number",.int next),("names",.ref nm),("steps",.ref st),("ticks",.ref tk),("kept_ticks",.ref kp)]
structure Adr where
 ad:Lb->Addr
 dx:Lb->Addr
abbrev Sl:=Nat->Int->Addr
noncomputable def loc(A:Adr)(sl:Sl):Lb->Addr
 | .slot i s=>sl i s
 |l=>A.ad l
noncomputable def Yn(sl:Sl)(i:Nat)(t:Dct (List Int)):List (Key×V):=mapK (λs _=>V.ref (sl i s)) t
noncomputable def cont(c:Cl)(A:Adr)(sl:Sl)(B:BkS):Lb->Option HO
 | .book=>some (.ins c.Book (A.dx .book) (SK (A.ad .rack) B.now B.next (A.ad .names) (A.ad .steps) (A.ad .ticks) (A.ad .kept)))
 | .rack=>some (.ins c.Rack (A.dx .rack) (Ry (A.ad .wheels) (A.ad .rows)))
 | .wheels=>some (.ins c.Wheels (A.dx .wheels) (Xm B.slots (A.ad .spans)))
 | .spans=>some (.tup (B.spans.map V.int))
 | .rows=>some (.lst ((List.range B.rows.length).map λi=>V.ref (A.ad (.row i))))
 | .names=>some (.dK (mapK (λ_ x=>V.str x) B.names))
 | .steps=>some (.dK (mapK (λ_ x=>XG x) B.steps))
 | .ticks=>some (.dK (mapK (λ_ x=>V.int x) B.ticks))
 | .kept=>some (.dK (mapK (λ_ x=>V.int x) B.kept))
 | .row i=>B.rows[i]?.map λr=>.ins c.Row (A.dx (.row i)) (rowF r.span (A.ad (.filled i)) (A.ad (.rising i)))
 | .filled i=>B.rows[i]?.map λr=>.dK (Yn sl i r.filled)
 | .rising i=>B.rows[i]?.map λr=>.lst (r.rising.map V.int)
 | .slot i s=>B.rows[i]?.bind λr=>(get r.filled s).map λns=>.dK (numV ns)
structure Bk(c:Cl)(A:Adr)(sl:Sl)(H0 H:Hp)(B:BkS):Prop where
 same:Same H0 H
 free:∀l o,cont c A sl B l=some o->H0 (loc A sl l)=none
 here:∀l o,cont c A sl B l=some o->H (loc A sl l)=some o
 inj:∀l l' o o',cont c A sl B l=some o->cont c A sl B l'=some o'->loc A sl l=loc A sl l'->l=l'
section
variable {c:Cl}{A:Adr}{sl:Sl}{H0 H:Hp}{B:BkS}
theorem Bk.set(b:Bk c A sl H0 H B){l:Lb}{o o':HO}{B':BkS}(hl:cont c A sl B l=some o)(e:cont c A sl B' l=some o')(e':∀l',l'≠l->∀u,cont c A sl B' l'=some u->cont c A sl B l'=some u):
  Bk c A sl H0 (upd H (loc A sl l) o') B':=by
 have back:∀l' u,cont c A sl B' l'=some u->∃v,cont c A sl B l'=some v:=λl' u h=>by
  by_cases z:l'=l
  ·exact⟨o,z▸hl⟩
  ·exact⟨u,e' l' z u h⟩
 refine⟨λx u h=>?_,λl' u h=>?_,λl' u h=>?_,λl1 l2 o1 o2 h1 h2 z=>?_⟩
 ·have hn:=b.free l o hl;rw[Zc (λz=>by rw[z,hn] at h;cases h)];exact b.same x u h
 ·obtain⟨v,hv⟩:=back l' u h;exact b.free l' v hv
 ·by_cases z:l'=l
  ·subst z;rw[e] at h;cases h;exact Zb
  ·have hv:=e' l' z u h;rw[Zc (λq=>z (b.inj l' l u o hv hl q))];exact b.here l' u hv
 ·obtain⟨v1,hv1⟩:=back l1 o1 h1;obtain⟨v2,hv2⟩:=back l2 o2 h2;exact b.inj l1 l2 v1 v2 hv1 hv2 z
theorem Bk.ne(b:Bk c A sl H0 H B){l:Lb}{o:HO}(hl:cont c A sl B l=some o){x:Addr}(hx:H x=none\/∃u,H0 x=some u):loc A sl l≠x:=λz=>by
 rcases hx with hx|⟨u,hx⟩
 ·have:=b.here l o hl;rw[z,hx] at this;cases this
 ·have:=b.free l o hl;rw[z,hx] at this;cases this
theorem Bk.out(b:Bk c A sl H0 H B){x:Addr}{o:HO}(hx:H x=none\/∃u,H0 x=some u):Bk c A sl (upd H0 x o) (upd H x o) B where
 same:=λy u h=>by
  by_cases z:y=x
  ·subst z;rw[Zb] at h;rw[Zb];exact h
  ·rw[Zc z] at h;rw[Zc z];exact b.same y u h
 free:=λl u h=>by rw[Zc (b.ne h hx)];exact b.free l u h
 here:=λl u h=>by rw[Zc (b.ne h hx)];exact b.here l u h
 inj:=b.inj
theorem Bk.weak{H1:Hp}(b:Bk c A sl H0 H B)(h:Same H1 H0):Bk c A sl H1 H B where
 same:=h.trans b.same
 free:=λl u q=>h.free (b.free l u q)
 here:=b.here
 inj:=b.inj
theorem Same.upd{H:Hp}{x:Addr}{o:HO}(h:H x=none):Same H (L2.upd H x o):=λy u q=>by
 rw[Zc (Zt q h)];exact q
theorem Bk.temp(b:Bk c A sl H0 H B){x:Addr}{o:HO}(hx:H x=none):Bk c A sl H0 (upd H x o) B:=(b.out (.inl hx)).weak (Same.upd (b.same.free hx))
noncomputable def XO(sl:Sl)(i:Nat)(s:Int)(d:Addr):Sl:=λi' s'=>if i'=i/\s'=s then d else sl i' s'
theorem Ru{sl:Sl}{i:Nat}{s:Int}{d:Addr}:XO sl i s d i s=d:=by simp[XO]
noncomputable def ZS(B:BkS)(i:Nat)(r:RowS):BkS:={B with rows:=B.rows.set i r}
theorem Yy{i j:Nat}{r r':RowS}(h:B.rows[i]?=some r):(ZS B i r').rows[j]?=if j=i then some r' else B.rows[j]?:=by
 show (B.rows.set i r')[j]?=_;have hl:i<B.rows.length:=(List.getElem?_eq_some_iff.mp h).1;rw[List.getElem?_set];by_cases e:i=j
 ·subst e;simp[hl]
 ·have e2: ¬j=i:=λz=>e z.symm;simp[e,e2]
theorem SI{i j:Nat}{s:Int}{d:Addr}{t:Dct (List Int)}(h:j=i->get t s=none):Yn (XO sl i s d) j t=Yn sl j t:=by
 unfold Yn mapK;apply List.map_congr_left
 intro p hp;have: ¬(j=i/\p.1=s):=λ⟨z1,z2⟩=>by
  have q:=h z1;rw[get_none] at q;exact q (z2▸List.mem_map.mpr ⟨p,hp,rfl⟩)
 simp[XO,this]
theorem Bk.newSlot(b:Bk c A sl H0 H B){i:Nat}{r:RowS}{s:Int}{d:Addr}(hr:B.rows[i]?=some r)(hs:get r.filled s=none)(hd:H d=none):
  Bk c A (XO sl i s d) H0 (upd (upd H d (.dK [])) (A.ad (.filled i)) (.dK (putK (Yn sl i r.filled) (Sum.inl s) (.ref d)))) (ZS B i {r with filled:=put r.filled s []}):=by
 have hlen:(B.rows.set i {r with filled:=put r.filled s []}).length=B.rows.length:=List.length_set ..;have eF:putK (Yn sl i r.filled) (Sum.inl s) (.ref d)=Yn (XO sl i s d) i (put r.filled s []):=by
  have:Yn sl i r.filled=Yn (XO sl i s d) i r.filled:=(SI (λ_=>hs)).symm;rw[this];unfold Yn;rw[←XZ,Ru]
 have hF:cont c A sl B (.filled i)=some (.dK (Yn sl i r.filled)):=by show B.rows[i]?.map _=_;rw[hr];rfl
 have nd:∀l o,cont c A sl B l=some o->loc A sl l≠d:=λl o h=>b.ne h (.inl hd);have old:∀l o,l≠.filled i->l≠.slot i s->cont c A (XO sl i s d) (ZS B i {r with filled:=put r.filled s []}) l=some o->cont c A sl B l=some o/\loc A (XO sl i s d) l=loc A sl l:=by
  intro l o h1 h2 h;cases l with
  |row j=>
   refine⟨?_,rfl⟩;have h':((ZS B i {r with filled:=put r.filled s []}).rows[j]?).map _=some o:=h;rw[Yy hr] at h';by_cases e:j=i
   ·subst e;rw[if_pos rfl] at h';show B.rows[j]?.map _=_;rw[hr];exact h'
   ·rw[if_neg e] at h';exact h'
  |filled j=>
   have e: ¬j=i:=λz=>h1 (by rw[z]);refine⟨?_,rfl⟩;have h':((ZS B i {r with filled:=put r.filled s []}).rows[j]?).map (λr=>HO.dK (Yn (XO sl i s d) j r.filled))=some o:=h;rw[Yy hr,if_neg e] at h';show B.rows[j]?.map _=_;rw[←h'];congr 1
   funext r';rw[SI (λz=>(e z).elim)]
  |rising j=>
   refine⟨?_,rfl⟩;have h':((ZS B i {r with filled:=put r.filled s []}).rows[j]?).map (λr=>HO.lst (r.rising.map V.int))=some o:=h;rw[Yy hr] at h';by_cases e:j=i
   ·subst e;rw[if_pos rfl] at h';show B.rows[j]?.map _=_;rw[hr];exact h'
   ·rw[if_neg e] at h';exact h'
  |slot j x=>
   have e: ¬(j=i/\x=s):=λz=>h2 (by rw[z.1,z.2]);refine⟨?_,by show XO sl i s d j x=sl j x;simp[XO,e]⟩;have h':((ZS B i {r with filled:=put r.filled s []}).rows[j]?).bind (λr=>(get r.filled x).map λns=>HO.dK (numV ns))=some o:=h;rw[Yy hr] at h';by_cases ej:j=i
   ·subst ej;rw[if_pos rfl] at h';have ex: ¬x=s:=λz=>e ⟨rfl,z⟩;have h'':(get (put r.filled s []) x).map (λns=>HO.dK (numV ns))=some o:=h';rw[ZD,if_neg ex] at h'';show B.rows[j]?.bind _=_;rw[hr];exact h''
   ·rw[if_neg ej] at h';exact h'
  |rows=>
   refine⟨?_,rfl⟩;have h':some (HO.lst ((List.range (B.rows.set i {r with filled:=put r.filled s []}).length).map λi=>V.ref (A.ad (.row i))))=some o:=h;rw[hlen] at h';exact h'
  |book=>exact⟨h,rfl⟩
  |rack=>exact⟨h,rfl⟩
  |wheels=>exact⟨h,rfl⟩
  |spans=>exact⟨h,rfl⟩
  |names=>exact⟨h,rfl⟩
  |steps=>exact⟨h,rfl⟩
  |ticks=>exact⟨h,rfl⟩
  |kept=>exact⟨h,rfl⟩
 have nF:A.ad (.filled i)≠d:=nd _ _ hF;have lS:loc A (XO sl i s d) (.slot i s)=d:=Ru;have lF:loc A (XO sl i s d) (.filled i)=loc A sl (.filled i):=rfl;have all:∀l o,cont c A (XO sl i s d) (ZS B i {r with filled:=put r.filled s []}) l=some o->l= .slot i s\/∃o',cont c A sl B l=some o'/\loc A (XO sl i s d) l=loc A sl l:=λl o h=>by
  by_cases h1:l= .slot i s
  ·exact .inl h1
  ·by_cases h2:l= .filled i
   ·subst h2;exact .inr ⟨_,hF,rfl⟩
   ·exact .inr ⟨o,old l o h2 h1 h⟩
 refine⟨λx u h=>?_,λl o h=>?_,λl o h=>?_,λl1 l2 o1 o2 h1 h2 z=>?_⟩
 ·have q:=b.same x u h;have n1:x≠A.ad (.filled i):=λz=>by
   have:=b.free _ _ hF;rw[show loc A sl (.filled i)=A.ad (.filled i) from rfl,←z,h] at this;cases this
  rw[Zc n1,Zc (Zt q hd)];exact q
 ·rcases all l o h with rfl|⟨o',ho,e⟩
  ·rw[lS];exact b.same.free hd
  ·rw[e];exact b.free l o' ho
 ·by_cases h1:l= .slot i s
  ·subst h1;rw[lS,Zc (Ne.symm nF),Zb];have h':((ZS B i {r with filled:=put r.filled s []}).rows[i]?).bind (λr=>(get r.filled s).map λns=>HO.dK (numV ns))=some o:=h;rw[Yy hr,if_pos rfl] at h';have h'':(get (put r.filled s []) s).map (λns=>HO.dK (numV ns))=some o:=h';rw[ZD,if_pos rfl] at h'';exact h''
  ·by_cases h2:l= .filled i
   ·subst h2;have h':((ZS B i {r with filled:=put r.filled s []}).rows[i]?).map (λr=>HO.dK (Yn (XO sl i s d) i r.filled))=some o:=h;rw[Yy hr,if_pos rfl] at h';show upd _ (A.ad (.filled i)) _ (A.ad (.filled i))=some o;rw[Zb,eF];exact h'
   ·obtain⟨ho,e⟩:=old l o h2 h1 h;rw[e,Zc (show loc A sl l≠A.ad (.filled i) from λz=>h2 (b.inj l (.filled i) o _ ho hF z)),Zc (nd l o ho)];exact b.here l o ho
 ·rcases all l1 o1 h1 with rfl|⟨p1,q1,e1⟩
  ·rcases all l2 o2 h2 with rfl|⟨p2,q2,e2⟩
   ·rfl
   ·rw[lS,e2] at z;exact(nd l2 p2 q2 z.symm).elim
  ·rcases all l2 o2 h2 with rfl|⟨p2,q2,e2⟩
   ·rw[lS,e1] at z;exact(nd l1 p1 q1 z).elim
   ·rw[e1,e2] at z;exact b.inj l1 l2 p1 p2 q1 q2 z
theorem Bk.wNow(b:Bk c A sl H0 H B)(x:Int):Bk c A sl H0 (upd H (A.ad .book) (.ins c.Book (A.dx .book) (SK (A.ad .rack) x B.next (A.ad .names) (A.ad .steps) (A.ad .ticks) (A.ad .kept)))) {B with now:=x}:=
 b.set (l:=.book) rfl rfl λl' hl u h=>by cases l'<;>first|exact h|exact absurd rfl hl
theorem Bk.wNext(b:Bk c A sl H0 H B)(x:Int):Bk c A sl H0 (upd H (A.ad .book) (.ins c.Book (A.dx .book) (SK (A.ad .rack) B.now x (A.ad .names) (A.ad .steps) (A.ad .ticks) (A.ad .kept)))) {B with next:=x}:=
 b.set (l:=.book) rfl rfl λl' hl u h=>by cases l'<;>first|exact h|exact absurd rfl hl
theorem Bk.wNames(b:Bk c A sl H0 H B)(x:Dct Str):Bk c A sl H0 (upd H (A.ad .names) (.dK (mapK (λ_ x=>V.str x) x))) {B with names:=x}:=
 b.set (l:=.names) rfl rfl λl' hl u h=>by cases l'<;>first|exact h|exact absurd rfl hl
theorem Bk.wSteps(b:Bk c A sl H0 H B)(x:Dct (Option Int)):Bk c A sl H0 (upd H (A.ad .steps) (.dK (mapK (λ_ x=>XG x) x))) {B with steps:=x}:=
 b.set (l:=.steps) rfl rfl λl' hl u h=>by cases l'<;>first|exact h|exact absurd rfl hl
theorem Bk.wTicks(b:Bk c A sl H0 H B)(x:Dct Int):Bk c A sl H0 (upd H (A.ad .ticks) (.dK (mapK (λ_ x=>V.int x) x))) {B with ticks:=x}:=
 b.set (l:=.ticks) rfl rfl λl' hl u h=>by cases l'<;>first|exact h|exact absurd rfl hl
theorem Bk.wKept(b:Bk c A sl H0 H B)(x:Dct Int):Bk c A sl H0 (upd H (A.ad .kept) (.dK (mapK (λ_ x=>V.int x) x))) {B with kept:=x}:=
 b.set (l:=.kept) rfl rfl λl' hl u h=>by cases l'<;>first|exact h|exact absurd rfl hl
theorem UF{i:Nat}{r r':RowS}{l:Lb}{u:HO}(hr:B.rows[i]?=some r)(h:cont c A sl (ZS B i r') l=some u)
 (h1:l= .row i->r'.span=r.span)(h2:l= .filled i->Yn sl i r'.filled=Yn sl i r.filled)(h3:l= .rising i->r'.rising=r.rising)(h4:∀s ns,l= .slot i s->get r'.filled s=some ns->get r.filled s=some ns):cont c A sl B l=some u:=by
 cases l with
 |row j=>
  have h':((ZS B i r').rows[j]?).map _=some u:=h;rw[Yy hr] at h';by_cases e:j=i
  ·subst e;rw[if_pos rfl] at h';show B.rows[j]?.map _=_;rw[hr,←h'];show some (HO.ins c.Row (A.dx (.row j)) (rowF r.span (A.ad (.filled j)) (A.ad (.rising j))))=some (HO.ins c.Row (A.dx (.row j)) (rowF r'.span (A.ad (.filled j)) (A.ad (.rising j))));rw[h1 rfl]
  ·rw[if_neg e] at h';exact h'
 |filled j=>
  have h':((ZS B i r').rows[j]?).map (λr=>HO.dK (Yn sl j r.filled))=some u:=h;rw[Yy hr] at h';by_cases e:j=i
  ·subst e;rw[if_pos rfl] at h';show B.rows[j]?.map (λr=>HO.dK (Yn sl j r.filled))=_;rw[hr,←h'];show some (HO.dK (Yn sl j r.filled))=some (HO.dK (Yn sl j r'.filled));rw[h2 rfl]
  ·rw[if_neg e] at h';exact h'
 |rising j=>
  have h':((ZS B i r').rows[j]?).map (λr=>HO.lst (r.rising.map V.int))=some u:=h;rw[Yy hr] at h';by_cases e:j=i
  ·subst e;rw[if_pos rfl] at h';show B.rows[j]?.map (λr=>HO.lst (r.rising.map V.int))=_;rw[hr,←h'];show some (HO.lst (r.rising.map V.int))=some (HO.lst (r'.rising.map V.int));rw[h3 rfl]
  ·rw[if_neg e] at h';exact h'
 |slot j x=>
  have h':((ZS B i r').rows[j]?).bind (λr=>(get r.filled x).map λns=>HO.dK (numV ns))=some u:=h;rw[Yy hr] at h';by_cases e:j=i
  ·subst e;rw[if_pos rfl] at h';have h'':(get r'.filled x).map (λns=>HO.dK (numV ns))=some u:=h';cases q:get r'.filled x with
   |none=>rw[q] at h'';cases h''
   |some ns=>
    show B.rows[j]?.bind _=_;rw[hr];show (get r.filled x).map (λns=>HO.dK (numV ns))=some u;rw[h4 x ns rfl q,←h'',q]
  ·rw[if_neg e] at h';exact h'
 |rows=>
  have h':some (HO.lst ((List.range (B.rows.set i r').length).map λi=>V.ref (A.ad (.row i))))=some u:=h;rw[List.length_set] at h';exact h'
 |book=>exact h
 |rack=>exact h
 |wheels=>exact h
 |spans=>exact h
 |names=>exact h
 |steps=>exact h
 |ticks=>exact h
 |kept=>exact h
theorem cont_row{i:Nat}{r:RowS}(hr:B.rows[i]?=some r):cont c A sl B (.row i)=some (.ins c.Row (A.dx (.row i)) (rowF r.span (A.ad (.filled i)) (A.ad (.rising i)))):=by show B.rows[i]?.map _=_;rw[hr];rfl
theorem VM{i:Nat}{r:RowS}(hr:B.rows[i]?=some r):cont c A sl B (.filled i)=some (.dK (Yn sl i r.filled)):=by show B.rows[i]?.map _=_;rw[hr];rfl
theorem UG{i:Nat}{r:RowS}(hr:B.rows[i]?=some r):cont c A sl B (.rising i)=some (.lst (r.rising.map V.int)):=by show B.rows[i]?.map _=_;rw[hr];rfl
theorem UW{i:Nat}{r:RowS}{s:Int}{ns:List Int}(hr:B.rows[i]?=some r)(hs:get r.filled s=some ns):cont c A sl B (.slot i s)=some (.dK (numV ns)):=by
 show B.rows[i]?.bind _=_;rw[hr];show (get r.filled s).map _=_;rw[hs];rfl
theorem Vu{i:Nat}{r r':RowS}(hr:B.rows[i]?=some r):(ZS B i r').rows[i]?=some r':=by rw[Yy hr,if_pos rfl]
theorem Bk.wRising(b:Bk c A sl H0 H B){i:Nat}{r:RowS}(hr:B.rows[i]?=some r)(l:List Int):Bk c A sl H0 (upd H (A.ad (.rising i)) (.lst (l.map V.int))) (ZS B i {r with rising:=l}):=
 b.set (l:=.rising i) (UG hr) (UG (Vu hr)) λl' hl u h=>UF hr h (λ_=>rfl) (λ_=>rfl) (λz=>(hl z).elim) λ_ _ _ q=>q
theorem fillV_put{i:Nat}{t:Dct (List Int)}{s:Int}{ns:List Int}(h:(get t s).isSome=true):Yn sl i (put t s ns)=Yn sl i t:=by
 unfold put;rw[Rj,if_pos h];unfold Yn mapK;rw[List.map_map];apply List.map_congr_left
 intro p _;by_cases e:p.1=s<;>simp[e]
theorem Bk.wSlot(b:Bk c A sl H0 H B){i:Nat}{r:RowS}{s:Int}{ns:List Int}(hr:B.rows[i]?=some r)(hs:get r.filled s=some ns)(ns':List Int):Bk c A sl H0 (upd H (sl i s) (.dK (numV ns'))) (ZS B i (Xn r s ns')):=
 b.set (l:=.slot i s) (UW hr hs) (UW (Vu hr) (by show get (put r.filled s ns') s=_;rw[ZD,if_pos rfl])) λl' hl u h=>
  UF hr h (λ_=>rfl) (λ_=>fillV_put (by rw[hs];rfl)) (λ_=>rfl) λx ms z q=>by
   have q':get (put r.filled s ns') x=some ms:=q;rw[ZD,if_neg (λe=>hl (by rw[z,e]))] at q';exact q'
theorem Bk.dropSlot(b:Bk c A sl H0 H B){i:Nat}{r:RowS}(hr:B.rows[i]?=some r)(s:Int):Bk c A sl H0 (upd H (A.ad (.filled i)) (.dK (YI (Yn sl i r.filled) (Sum.inl s)))) (ZS B i {r with filled:=drop r.filled s}):=by
 have e:YI (Yn sl i r.filled) (Sum.inl s)=Yn sl i (drop r.filled s):=Xp _ _ _;rw[e];refine b.set (l:=.filled i) (VM hr) (VM (Vu hr)) λl' hl u h=>UF hr h (λ_=>rfl) (λz=>(hl z).elim) (λ_=>rfl) λx ms _ q=>?_;have q':get (drop r.filled s) x=some ms:=q;rw[Zy] at q';by_cases z:x=s
 ·rw[if_pos z] at q';cases q'
 ·rw[if_neg z] at q';exact q'
theorem Vb{i:Nat}{r r':RowS}:ZS (ZS B i r) i r'=ZS B i r':=by
 unfold ZS;congr 1
 exact List.set_set ..
theorem Bk.book(b:Bk c A sl H0 H B):H (A.ad .book)=some (.ins c.Book (A.dx .book) (SK (A.ad .rack) B.now B.next (A.ad .names) (A.ad .steps) (A.ad .ticks) (A.ad .kept))):=b.here .book _ rfl
theorem Bk.rack(b:Bk c A sl H0 H B):H (A.ad .rack)=some (.ins c.Rack (A.dx .rack) (Ry (A.ad .wheels) (A.ad .rows))):=b.here .rack _ rfl
theorem Bk.wheels(b:Bk c A sl H0 H B):H (A.ad .wheels)=some (.ins c.Wheels (A.dx .wheels) (Xm B.slots (A.ad .spans))):=b.here .wheels _ rfl
theorem Bk.spans(b:Bk c A sl H0 H B):H (A.ad .spans)=some (.tup (B.spans.map V.int)):=b.here .spans _ rfl
theorem Bk.rows(b:Bk c A sl H0 H B):H (A.ad .rows)=some (.lst ((List.range B.rows.length).map λi=>V.ref (A.ad (.row i)))):=b.here .rows _ rfl
theorem Bk.names(b:Bk c A sl H0 H B):H (A.ad .names)=some (.dK (mapK (λ_ x=>V.str x) B.names)):=b.here .names _ rfl
theorem Bk.steps(b:Bk c A sl H0 H B):H (A.ad .steps)=some (.dK (mapK (λ_ x=>XG x) B.steps)):=b.here .steps _ rfl
theorem Bk.ticks(b:Bk c A sl H0 H B):H (A.ad .ticks)=some (.dK (mapK (λ_ x=>V.int x) B.ticks)):=b.here .ticks _ rfl
theorem Bk.kept(b:Bk c A sl H0 H B):H (A.ad .kept)=some (.dK (mapK (λ_ x=>V.int x) B.kept)):=b.here .kept _ rfl
theorem Bk.row(b:Bk c A sl H0 H B){i:Nat}{r:RowS}(hr:B.rows[i]?=some r):H (A.ad (.row i))=some (.ins c.Row (A.dx (.row i)) (rowF r.span (A.ad (.filled i)) (A.ad (.rising i)))):=b.here (.row i) _ (cont_row hr)
theorem Bk.filled(b:Bk c A sl H0 H B){i:Nat}{r:RowS}(hr:B.rows[i]?=some r):H (A.ad (.filled i))=some (.dK (Yn sl i r.filled)):=b.here (.filled i) _ (VM hr)
theorem Bk.rising(b:Bk c A sl H0 H B){i:Nat}{r:RowS}(hr:B.rows[i]?=some r):H (A.ad (.rising i))=some (.lst (r.rising.map V.int)):=b.here (.rising i) _ (UG hr)
theorem Bk.slot(b:Bk c A sl H0 H B){i:Nat}{r:RowS}{s:Int}{ns:List Int}(hr:B.rows[i]?=some r)(hs:get r.filled s=some ns):H (sl i s)=some (.dK (numV ns)):=b.here (.slot i s) _ (UW hr hs)
end
section
variable {c:Cl}{A:Adr}{sl:Sl}{H0 H:Hp}{B:BkS}
theorem UV{i:Nat}{t:Dct (List Int)}{s:Int}:valV (Yn sl i t) (Sum.inl s)=(get t s).map λ_=>V.ref (sl i s):=ZX _ _ _
theorem Bk.getF(b:Bk c A sl H0 H B){i:Nat}{r:RowS}{s:Int}{ns:List Int}(hr:B.rows[i]?=some r)(hs:get r.filled s=some ns):DGet H (A.ad (.filled i)) (.int s) (some (.ref (sl i s))):=by
 have:=DGet.k (k:=Sum.inl s) (b.filled hr);rw[UV,hs] at this;exact this
theorem Bk.putS(b:Bk c A sl H0 H B){i:Nat}{r:RowS}{s n:Int}{ns:List Int}(hr:B.rows[i]?=some r)(hs:get r.filled s=some ns)(hl:ns.length<sizeLine):DPut H (sl i s) (.int n) (.bl true) (upd H (sl i s) (.dK (numV (putN ns n)))):=by
 have:=DPut.k (k:=Sum.inl n) (v:=.bl true) (b.slot hr hs) (by unfold numV;rw[List.length_map];exact hl);rw[putK_numV] at this;exact this
end
end Tb
end
section
namespace Tb
open PySem L2 Mir Rk
noncomputable def ZW(nm:Option Str)(sp:Option (Option Int))(t:Option Int):Option (Al Str):=t.bind λt=>nm.bind λx=>sp.map λs=>⟨x,t,s⟩
noncomputable def wait(B:BkS):Fn Str:=λk=>ZW (get B.names k) (get B.steps k) (get B.ticks k)
noncomputable def rest(B:BkS):Fn Str:=λk=>ZW (get B.names k) (get B.steps k) (get B.kept k)
structure Out(B:BkS):Prop where
 ndT:(keys B.ticks).Nodup
 ndK:(keys B.kept).Nodup
 ndN:(keys B.names).Nodup
 ndS:(keys B.steps).Nodup
 nx:0<=B.next/\B.next<=63
 dom:∀k,(get B.names k).isSome=true->0<=k/\k<B.next
 nm:∀k,(get B.names k).isSome=((get B.ticks k).isSome||(get B.kept k).isSome)
 st:∀k,(get B.steps k).isSome=(get B.names k).isSome
 pos:∀k s,get B.steps k=some (some s)->1<=s
 dis:∀k,(get B.ticks k).isSome=true->get B.kept k=none
 kp:∀k t,get B.kept k=some t->0<t
theorem Uk{α:Type}{t:Dct α}(nd:(keys t).Nodup){N:Nat}(h:∀k,(get t k).isSome=true->0<=k/\k<N):t.length<=N:=by
 have q:=nd.length_le_of_subset (l₂:=(List.range N).map (λ(i:Nat)=>(i:Int))) λk hk=>by
  have hs:(get t k).isSome=true:=by
   cases e:get t k with
   |none=>exact(get_none.mp e hk).elim
   |some v=>rfl
  obtain⟨a,b⟩:=h k hs;exact List.mem_map.mpr ⟨k.toNat,List.mem_range.mpr (by omega),by omega⟩
 simpa[keys] using q
section
variable {B:BkS}
theorem Out.namesT(o:Out B){k:Int}(h:(get B.ticks k).isSome=true):(get B.names k).isSome=true:=by rw[o.nm,h];rfl
theorem Out.namesK(o:Out B){k:Int}(h:(get B.kept k).isSome=true):(get B.names k).isSome=true:=by rw[o.nm,h];simp
theorem Out.domT(o:Out B){k t:Int}(h:get B.ticks k=some t):0<=k/\k<B.next:=o.dom k (o.namesT (by rw[h];rfl))
theorem Out.lens(o:Out B):B.ticks.length<=63/\B.kept.length<=63/\B.names.length<=63/\B.steps.length<=63:=by
 have n:=o.nx;refine⟨Uk o.ndT λk h=>?_,Uk o.ndK λk h=>?_,Uk o.ndN λk h=>?_,Uk o.ndS λk h=>?_⟩
 ·have:=o.dom k (o.namesT h);omega
 ·have:=o.dom k (o.namesK h);omega
 ·have:=o.dom k h;omega
 ·have:=o.dom k (by rw[←o.st];exact h);omega
theorem Out.at(o:Out B){k:Int}(h:(get B.names k).isSome=true):∃nm sp,get B.names k=some nm/\get B.steps k=some sp:=by
 obtain⟨nm,e1⟩:=Option.isSome_iff_exists.mp h;obtain⟨sp,e2⟩:=Option.isSome_iff_exists.mp (by rw[o.st];exact h:(get B.steps k).isSome=true);exact⟨nm,sp,e1,e2⟩
theorem Out.waits(o:Out B){k t:Int}(h:get B.ticks k=some t):∃nm sp,get B.names k=some nm/\get B.steps k=some sp/\wait B k=some ⟨nm,t,sp⟩:=by
 obtain⟨nm,sp,e1,e2⟩:=o.at (o.namesT (by rw[h];rfl));exact⟨nm,sp,e1,e2,by unfold wait;rw[h,e1,e2];rfl⟩
theorem Out.rests(o:Out B){k t:Int}(h:get B.kept k=some t):∃nm sp,get B.names k=some nm/\get B.steps k=some sp/\rest B k=some ⟨nm,t,sp⟩:=by
 obtain⟨nm,sp,e1,e2⟩:=o.at (o.namesK (by rw[h];rfl));exact⟨nm,sp,e1,e2,by unfold rest;rw[h,e1,e2];rfl⟩
theorem alarm_some{nm:Option Str}{sp:Option (Option Int)}{t:Option Int}{a:Al Str}:ZW nm sp t=some a↔nm=some a.name/\sp=some a.step/\t=some a.tick:=by
 unfold ZW;cases t with
 |none=>simp
 |some t=>
  cases nm with
  |none=>simp
  |some x=>
   cases sp with
   |none=>simp
   |some s=>
    obtain⟨n',t',s'⟩:=a;simp;exact λ_=>And.comm
theorem Out.tick_of(o:Out B)(k:Int):(wait B k).map (·.tick)=get B.ticks k:=by
 cases e:get B.ticks k with
 |none=>unfold wait;rw[e];rfl
 |some t=>obtain⟨nm,sp,_,_,w⟩:=o.waits e;rw[w];rfl
theorem Out.good(o:Out B):GoodF 63 (wait B):=λn a h=>by
 obtain⟨h1,h2,h3⟩:=alarm_some.mp h;have:=o.domT h3;have n:=o.nx;exact⟨by omega,λk hk=>by have:=o.pos _ k (by rw[h2,hk]);omega⟩
noncomputable def setB(B:BkS)(name:Str)(due:Int)(step:Option Int):BkS:={B with next:=B.next+1,names:=put B.names B.next name,steps:=put B.steps B.next step,ticks:=put B.ticks B.next due}
theorem Out.fresh(o:Out B):get B.names B.next=none/\get B.steps B.next=none/\get B.ticks B.next=none/\get B.kept B.next=none:=by
 have h:get B.names B.next=none:=by
  cases e:get B.names B.next with
  |none=>rfl
  |some v=>have:=o.dom B.next (by rw[e];rfl);omega
 have h2:=o.st B.next;have h3:=o.nm B.next;rw[h] at h2 h3;refine⟨h,by simpa using h2,?_,?_⟩
 ·cases e:get B.ticks B.next with
  |none=>rfl
  |some v=>rw[e] at h3;simp at h3
 ·cases e:get B.kept B.next with
  |none=>rfl
  |some v=>rw[e] at h3;simp at h3
theorem Out.setB(o:Out B)(hn:B.next<63){name:Str}{due:Int}{step:Option Int}(hs:∀s,step=some s->1<=s):Out (setB B name due step) where
 ndT:=Ya o.ndT _ _
 ndK:=o.ndK
 ndN:=Ya o.ndN _ _
 ndS:=Ya o.ndS _ _
 nx:=by have:=o.nx;exact⟨by show 0<=B.next+1;omega,by show B.next+1<=63;omega⟩
 dom:=λk h=>by
  have h':(get (put B.names B.next name) k).isSome=true:=h;show 0<=k/\k<B.next+1;rw[ZD] at h';have:=o.nx;by_cases e:k=B.next
  ·omega
  ·rw[if_neg e] at h';have:=o.dom k h';omega
 nm:=λk=>by
  show (get (put B.names B.next name) k).isSome=((get (put B.ticks B.next due) k).isSome||(get B.kept k).isSome);rw[ZD,ZD];by_cases e:k=B.next
  ·simp[e]
  ·rw[if_neg e,if_neg e];exact o.nm k
 st:=λk=>by
  show (get (put B.steps B.next step) k).isSome=(get (put B.names B.next name) k).isSome;rw[ZD,ZD];by_cases e:k=B.next
  ·simp[e]
  ·rw[if_neg e,if_neg e];exact o.st k
 pos:=λk s h=>by
  have h':get (put B.steps B.next step) k=some (some s):=h;rw[ZD] at h';by_cases e:k=B.next
  ·rw[if_pos e] at h';exact hs s (Option.some.inj h')
  ·rw[if_neg e] at h';exact o.pos k s h'
 dis:=λk h=>by
  have h':(get (put B.ticks B.next due) k).isSome=true:=h;rw[ZD] at h';by_cases e:k=B.next
  ·rw[e];exact o.fresh.2.2.2
  ·rw[if_neg e] at h';exact o.dis k h'
 kp:=o.kp
theorem Out.wait_setB(o:Out B){name:Str}{due:Int}{step:Option Int}:wait (Tb.setB B name due step)=fput (wait B) B.next (some ⟨name,due,step⟩):=by
 funext k;show ZW (get (put B.names B.next name) k) (get (put B.steps B.next step) k) (get (put B.ticks B.next due) k)=_;rw[ZD,ZD,ZD];unfold fput;by_cases e:k=B.next
 ·simp[e,ZW]
 ·simp only[if_neg e];rfl
theorem Out.rest_setB(o:Out B){name:Str}{due:Int}{step:Option Int}:rest (Tb.setB B name due step)=rest B:=by
 funext k;show ZW (get (put B.names B.next name) k) (get (put B.steps B.next step) k) (get B.kept k)=ZW (get B.names k) (get B.steps k) (get B.kept k);rw[ZD,ZD];by_cases e:k=B.next
 ·rw[e,o.fresh.2.2.2];rfl
 ·rw[if_neg e,if_neg e]
noncomputable def ringB(B:BkS)(k:Int):Option Int->BkS
 |none=>{B with ticks:=drop B.ticks k,steps:=drop B.steps k,names:=drop B.names k}
 |some s=>{B with ticks:=put B.ticks k (B.now+s)}
theorem Out.ringB(o:Out B){k t:Int}{sp:Option Int}(ht:get B.ticks k=some t)(hs:get B.steps k=some sp):Out (ringB B k sp):=by
 have hk:get B.kept k=none:=o.dis k (by rw[ht];rfl);cases sp with
 |none=>
  refine⟨ZL o.ndT _,o.ndK,ZL o.ndN _,ZL o.ndS _,o.nx,λm h=>?_,λm=>?_,λm=>?_,λm s h=>?_,λm h=>?_,o.kp⟩
  ·have h':(get (drop B.names k) m).isSome=true:=h;rw[Zy] at h';by_cases e:m=k
   ·rw[if_pos e] at h';cases h'
   ·rw[if_neg e] at h';exact o.dom m h'
  ·show (get (drop B.names k) m).isSome=((get (drop B.ticks k) m).isSome||(get B.kept m).isSome);rw[Zy,Zy];by_cases e:m=k
   ·rw[if_pos e,if_pos e,e,hk];rfl
   ·rw[if_neg e,if_neg e];exact o.nm m
  ·show (get (drop B.steps k) m).isSome=(get (drop B.names k) m).isSome;rw[Zy,Zy];by_cases e:m=k
   ·rw[if_pos e,if_pos e];rfl
   ·rw[if_neg e,if_neg e];exact o.st m
  ·have h':get (drop B.steps k) m=some (some s):=h;rw[Zy] at h';by_cases e:m=k
   ·rw[if_pos e] at h';cases h'
   ·rw[if_neg e] at h';exact o.pos m s h'
  ·have h':(get (drop B.ticks k) m).isSome=true:=h;rw[Zy] at h';by_cases e:m=k
   ·rw[if_pos e] at h';cases h'
   ·rw[if_neg e] at h';exact o.dis m h'
 |some s=>
  refine⟨Ya o.ndT _ _,o.ndK,o.ndN,o.ndS,o.nx,o.dom,λm=>?_,o.st,o.pos,λm h=>?_,o.kp⟩
  ·show (get B.names m).isSome=((get (put B.ticks k (B.now+s)) m).isSome||(get B.kept m).isSome);rw[ZD];by_cases e:m=k
   ·rw[if_pos e,e,o.namesT (by rw[ht];rfl)];rfl
   ·rw[if_neg e];exact o.nm m
  ·have h':(get (put B.ticks k (B.now+s)) m).isSome=true:=h;rw[ZD] at h';by_cases e:m=k
   ·rw[e];exact hk
   ·rw[if_neg e] at h';exact o.dis m h'
theorem Out.wait_ringB(o:Out B){k:Int}{sp:Option Int}{nm:Str}(ht:get B.ticks k=some B.now)(hs:get B.steps k=some sp)(hn:get B.names k=some nm):wait (Tb.ringB B k sp)=fput (wait B) k (after ⟨nm,B.now,sp⟩):=by
 funext m;cases sp with
 |none=>
  show ZW (get (drop B.names k) m) (get (drop B.steps k) m) (get (drop B.ticks k) m)=_;rw[Zy,Zy,Zy];unfold fput;by_cases e:m=k
  ·simp[e,ZW,after]
  ·simp only[if_neg e];rfl
 |some s=>
  show ZW (get B.names m) (get B.steps m) (get (put B.ticks k (B.now+s)) m)=_;rw[ZD];unfold fput;by_cases e:m=k
  ·subst e;simp[ZW,after,hs,hn]
  ·simp only[if_neg e];rfl
theorem Out.rest_ringB(o:Out B){k t:Int}{sp:Option Int}(ht:get B.ticks k=some t):rest (Tb.ringB B k sp)=rest B:=by
 have hk:get B.kept k=none:=o.dis k (by rw[ht];rfl);cases sp with
 |none=>
  funext m;show ZW (get (drop B.names k) m) (get (drop B.steps k) m) (get B.kept m)=ZW (get B.names m) (get B.steps m) (get B.kept m);rw[Zy,Zy];by_cases e:m=k
  ·rw[e,hk];rfl
  ·rw[if_neg e,if_neg e]
 |some s=>rfl
end
end Tb
end
section
namespace Tk
open PySem L2
noncomputable def top(i:Nat):Stmt:=PySem.Challenge.pw_tickbook_k30_whole_ahead.main.body.getD i (.Pass ⟨0,0,0,0⟩)
abbrev YA:Stmt:=top 11
abbrev Xc:Stmt:=top 12
abbrev Yc:Stmt:=ZU (top 13) 0
abbrev YB:Stmt:=ZU (top 13) 1
abbrev XR:Stmt:=top 15
abbrev YC:Stmt:=ZU (top 16) 0
abbrev Vr:Stmt:=ZU (top 16) 1
abbrev XW:Stmt:=ZU (top 16) 2
abbrev Yr:Stmt:=ZU (top 16) 3
abbrev Yk:Stmt:=ZU (top 16) 4
abbrev Ys:Stmt:=ZU (top 17) 0
abbrev YW:Stmt:=ZU (top 17) 1
abbrev XX:Stmt:=ZU (top 17) 2
abbrev XC:Stmt:=ZU (top 17) 3
abbrev Yl:Stmt:=ZU (top 17) 5
abbrev ZY:Stmt:=ZU (top 17) 6
abbrev ZQ:Stmt:=ZU (top 17) 7
abbrev Yd:Stmt:=ZU (top 17) 8
abbrev Yt:Stmt:=ZU (top 19) 0
abbrev XD:Stmt:=ZU (top 19) 1
abbrev YD:Stmt:=ZU (top 19) 2
abbrev YF:Stmt:=ZU (top 19) 3
abbrev XY:Stmt:=ZU (top 19) 4
abbrev XE:Stmt:=ZU (top 19) 5
abbrev YE:Stmt:=ZU (top 19) 8
abbrev Xe:Stmt:=top 20
abbrev Xf:Stmt:=top 21
abbrev Yq:Stmt:=top 22
abbrev Yp:Stmt:=top 23
abbrev Yz:Stmt:=top 24
abbrev VR:Stmt:=top 25
abbrev Xt:Stmt:=top 26
abbrev Xs:Stmt:=top 27
abbrev Sj:Stmt:=top 28
abbrev Si:Stmt:=top 29
abbrev UN:Stmt:=top 30
abbrev Sh:Stmt:=top 31
abbrev Vo:Stmt:=top 32
abbrev Xd:Stmt:=top 33
abbrev YU:Stmt:=top 35
abbrev UO:Stmt:=top 36
abbrev XA:Stmt:=top 38
abbrev XV:Stmt:=top 39
abbrev XU:Stmt:=top 41
abbrev XT:Stmt:=top 42
abbrev Xx:Stmt:=top 43
abbrev XB:Stmt:=top 44
abbrev Xv:Stmt:=top 45
abbrev Vp:Stmt:=top 46
abbrev Xw:Stmt:=top 47
abbrev YV:Stmt:=top 48
abbrev Xg:Stmt:=top 49
abbrev Xz:Stmt:=top 50
abbrev Xy:Stmt:=top 51
abbrev Xh:Stmt:=top 52
abbrev Vq:Stmt:=top 53
abbrev Xu:Stmt:=top 54
abbrev s_law:Stmt:=top 55
set_option genInjectivity false in
structure Ad where
 f_check_wheels:Addr
 fd_check_wheels:FuncData
 f_slot_spans:Addr
 fd_slot_spans:FuncData
 f_Wheels___init__:Addr
 fd_Wheels___init__:FuncData
 f_Wheels_place:Addr
 fd_Wheels_place:FuncData
 f_position:Addr
 fd_position:FuncData
 f_Row___init__:Addr
 fd_Row___init__:FuncData
 f_Row_put:Addr
 fd_Row_put:FuncData
 f_Row_take:Addr
 fd_Row_take:FuncData
 f_Row_take_slot:Addr
 fd_Row_take_slot:FuncData
 f_Row_numbers_in:Addr
 fd_Row_numbers_in:FuncData
 f_Rack___init__:Addr
 fd_Rack___init__:FuncData
 f_Rack_row_of:Addr
 fd_Rack_row_of:FuncData
 f_Rack_put:Addr
 fd_Rack_put:FuncData
 f_Rack_take:Addr
 fd_Rack_take:FuncData
 f_Rack_first_row:Addr
 fd_Rack_first_row:FuncData
 f_Rack_first_start:Addr
 fd_Rack_first_start:FuncData
 f_Rack_first_numbers:Addr
 fd_Rack_first_numbers:FuncData
 f_Rack_take_first:Addr
 fd_Rack_take_first:FuncData
 f_Book___init__:Addr
 fd_Book___init__:FuncData
 f_Book_time:Addr
 fd_Book_time:FuncData
 f_Book_waiting:Addr
 fd_Book_waiting:FuncData
 f_Book_resting:Addr
 fd_Book_resting:FuncData
 f_Book_due:Addr
 fd_Book_due:FuncData
 f_Book_left:Addr
 fd_Book_left:FuncData
 f_Book_soonest:Addr
 fd_Book_soonest:FuncData
 f_check_tick:Addr
 fd_check_tick:FuncData
 f_check_step:Addr
 fd_check_step:FuncData
 f_check_stretch:Addr
 fd_check_stretch:FuncData
 f_start_waiting:Addr
 fd_start_waiting:FuncData
 f_stop_waiting:Addr
 fd_stop_waiting:FuncData
 f_forget:Addr
 fd_forget:FuncData
 f_set_alarm:Addr
 fd_set_alarm:FuncData
 f_take_back:Addr
 fd_take_back:FuncData
 f_move:Addr
 fd_move:FuncData
 f_rest:Addr
 fd_rest:FuncData
 f_go_on:Addr
 fd_go_on:FuncData
 f_ring:Addr
 fd_ring:FuncData
 f_turn_to:Addr
 fd_turn_to:FuncData
 f_pass_ticks:Addr
 fd_pass_ticks:FuncData
 f_rings_until:Addr
 fd_rings_until:FuncData
 f_ahead:Addr
 fd_ahead:FuncData
 f__law_cell:Addr
 fd__law_cell:FuncData
 f__law_mix:Addr
 fd__law_mix:FuncData
 f__law_new:Addr
 fd__law_new:FuncData
 f__law_set:Addr
 fd__law_set:FuncData
 f__law_move:Addr
 fd__law_move:FuncData
 f__law_back:Addr
 fd__law_back:FuncData
 f__law_rest:Addr
 fd__law_rest:FuncData
 f__law_on:Addr
 fd__law_on:FuncData
 f__law_pass:Addr
 fd__law_pass:FuncData
 f__law_wheels:Addr
 fd__law_wheels:FuncData
 f__law_ticks:Addr
 fd__law_ticks:FuncData
 f__law_deed:Addr
 fd__law_deed:FuncData
 f__law_done:Addr
 fd__law_done:FuncData
 f__law_asked:Addr
 fd__law_asked:FuncData
 f__law_is:Addr
 fd__law_is:FuncData
 f__law_same:Addr
 fd__law_same:FuncData
 f_law:Addr
 fd_law:FuncData
 C_Wheels:Addr
 C_Row:Addr
 C_Rack:Addr
 C_Book:Addr
 C_TickError:Addr
 C_BadWheels:Addr
 C_Past:Addr
 C_NotThere:Addr
 t_FEWEST_SLOTS:Tok
 t_MOST_SLOTS:Tok
 t_FEWEST_LEVELS:Tok
 t_MOST_LEVELS:Tok
open W in
structure Txt(K:W.Frag)(mg:Str->Option Value)(a:Ad):Prop where
 c_Wheels:mg "Wheels"=some (.ref a.C_Wheels)
 cl_Wheels:Cls K a.C_Wheels
 n_Wheels_slots:NoAttr K a.C_Wheels "slots"
 n_Wheels_spans:NoAttr K a.C_Wheels "spans"
 c_Row:mg "Row"=some (.ref a.C_Row)
 cl_Row:Cls K a.C_Row
 n_Row_span:NoAttr K a.C_Row "span"
 n_Row_filled:NoAttr K a.C_Row "filled"
 n_Row_rising:NoAttr K a.C_Row "rising"
 c_Rack:mg "Rack"=some (.ref a.C_Rack)
 cl_Rack:Cls K a.C_Rack
 n_Rack_wheels:NoAttr K a.C_Rack "wheels"
 n_Rack_rows:NoAttr K a.C_Rack "rows"
 c_Book:mg "Book"=some (.ref a.C_Book)
 cl_Book:Cls K a.C_Book
 n_Book_rack:NoAttr K a.C_Book "rack"
 n_Book_now:NoAttr K a.C_Book "now"
 n_Book_next_number:NoAttr K a.C_Book "next_number"
 n_Book_names:NoAttr K a.C_Book "names"
 n_Book_steps:NoAttr K a.C_Book "steps"
 n_Book_ticks:NoAttr K a.C_Book "ticks"
 n_Book_kept_ticks:NoAttr K a.C_Book "kept_ticks"
 c_TickError:mg "TickError"=some (.ref a.C_TickError)
 ct_TickError:Ctch K a.C_TickError
 c_BadWheels:mg "BadWheels"=some (.ref a.C_BadWheels)
 x_BadWheels:excIn K a.C_BadWheels bmV "ValueError.__new__"=true
 c_Past:mg "Past"=some (.ref a.C_Past)
 x_Past:excIn K a.C_Past bmV "ValueError.__new__"=true
 ec_Past:ExcC K a.C_Past
 kv_Past:kitOne K (.ref a.C_Past) (.type "ValueError")=some true
 c_NotThere:mg "NotThere"=some (.ref a.C_NotThere)
 x_NotThere:excIn K a.C_NotThere bmV "ValueError.__new__"=true
 ec_NotThere:ExcC K a.C_NotThere
 kv_NotThere:kitOne K (.ref a.C_NotThere) (.type "ValueError")=some true
 kt_Past_Past:kitOne K (.ref a.C_Past) (.ref a.C_Past)=some true
 sb_Past_TickError:subIn K (.ref a.C_Past) (.ref a.C_TickError)=some true
 kt_Past_BadWheels:kitOne K (.ref a.C_Past) (.ref a.C_BadWheels)=some false
 kt_Past_NotThere:kitOne K (.ref a.C_Past) (.ref a.C_NotThere)=some false
 kt_NotThere_NotThere:kitOne K (.ref a.C_NotThere) (.ref a.C_NotThere)=some true
 sb_NotThere_TickError:subIn K (.ref a.C_NotThere) (.ref a.C_TickError)=some true
 kt_NotThere_BadWheels:kitOne K (.ref a.C_NotThere) (.ref a.C_BadWheels)=some false
 kt_NotThere_Past:kitOne K (.ref a.C_NotThere) (.ref a.C_Past)=some false
 f_check_wheels:mg "check_wheels"=some (.ref a.f_check_wheels)
 F_check_wheels:Fun K "check_wheels" "check_wheels" YA a.f_check_wheels a.fd_check_wheels
 kp_check_wheels:keepIn K (.ref a.f_check_wheels)=true
 B_check_wheels:Binds K a.fd_check_wheels ["slots","levels"] []
 f_slot_spans:mg "slot_spans"=some (.ref a.f_slot_spans)
 F_slot_spans:Fun K "slot_spans" "slot_spans" Xc a.f_slot_spans a.fd_slot_spans
 kp_slot_spans:keepIn K (.ref a.f_slot_spans)=true
 B_slot_spans:Binds K a.fd_slot_spans ["slots","levels"] []
 F_Wheels___init__:Fun K "__init__" "Wheels.__init__" Yc a.f_Wheels___init__ a.fd_Wheels___init__
 B_Wheels___init__:Binds K a.fd_Wheels___init__ ["self","slots","levels"] []
 M_Wheels:Mk K a.C_Wheels a.f_Wheels___init__
 F_Wheels_place:Fun K "place" "Wheels.place" YB a.f_Wheels_place a.fd_Wheels_place
 B_Wheels_place:Binds K a.fd_Wheels_place ["self","now","due"] []
 m_Wheels_place:Meth K a.C_Wheels "place" a.f_Wheels_place
 f_position:mg "position"=some (.ref a.f_position)
 F_position:Fun K "position" "position" XR a.f_position a.fd_position
 kp_position:keepIn K (.ref a.f_position)=true
 B_position:Binds K a.fd_position ["rising","value"] []
 F_Row___init__:Fun K "__init__" "Row.__init__" YC a.f_Row___init__ a.fd_Row___init__
 B_Row___init__:Binds K a.fd_Row___init__ ["self","span"] []
 M_Row:Mk K a.C_Row a.f_Row___init__
 F_Row_put:Fun K "put" "Row.put" Vr a.f_Row_put a.fd_Row_put
 B_Row_put:Binds K a.fd_Row_put ["self","number","tick"] []
 m_Row_put:Meth K a.C_Row "put" a.f_Row_put
 F_Row_take:Fun K "take" "Row.take" XW a.f_Row_take a.fd_Row_take
 B_Row_take:Binds K a.fd_Row_take ["self","number","tick"] []
 m_Row_take:Meth K a.C_Row "take" a.f_Row_take
 F_Row_take_slot:Fun K "take_slot" "Row.take_slot" Yr a.f_Row_take_slot a.fd_Row_take_slot
 B_Row_take_slot:Binds K a.fd_Row_take_slot ["self","slot"] []
 m_Row_take_slot:Meth K a.C_Row "take_slot" a.f_Row_take_slot
 F_Row_numbers_in:Fun K "numbers_in" "Row.numbers_in" Yk a.f_Row_numbers_in a.fd_Row_numbers_in
 B_Row_numbers_in:Binds K a.fd_Row_numbers_in ["self","slot"] []
 m_Row_numbers_in:Meth K a.C_Row "numbers_in" a.f_Row_numbers_in
 F_Rack___init__:Fun K "__init__" "Rack.__init__" Ys a.f_Rack___init__ a.fd_Rack___init__
 B_Rack___init__:Binds K a.fd_Rack___init__ ["self","slots","levels"] []
 M_Rack:Mk K a.C_Rack a.f_Rack___init__
 F_Rack_row_of:Fun K "row_of" "Rack.row_of" YW a.f_Rack_row_of a.fd_Rack_row_of
 B_Rack_row_of:Binds K a.fd_Rack_row_of ["self","now","tick"] []
 m_Rack_row_of:Meth K a.C_Rack "row_of" a.f_Rack_row_of
 F_Rack_put:Fun K "put" "Rack.put" XX a.f_Rack_put a.fd_Rack_put
 B_Rack_put:Binds K a.fd_Rack_put ["self","now","number","tick"] []
 m_Rack_put:Meth K a.C_Rack "put" a.f_Rack_put
 F_Rack_take:Fun K "take" "Rack.take" XC a.f_Rack_take a.fd_Rack_take
 B_Rack_take:Binds K a.fd_Rack_take ["self","now","number","tick"] []
 m_Rack_take:Meth K a.C_Rack "take" a.f_Rack_take
 F_Rack_first_row:Fun K "first_row" "Rack.first_row" Yl a.f_Rack_first_row a.fd_Rack_first_row
 B_Rack_first_row:Binds K a.fd_Rack_first_row ["self"] []
 m_Rack_first_row:Meth K a.C_Rack "first_row" a.f_Rack_first_row
 F_Rack_first_start:Fun K "first_start" "Rack.first_start" ZY a.f_Rack_first_start a.fd_Rack_first_start
 B_Rack_first_start:Binds K a.fd_Rack_first_start ["self"] []
 m_Rack_first_start:Meth K a.C_Rack "first_start" a.f_Rack_first_start
 F_Rack_first_numbers:Fun K "first_numbers" "Rack.first_numbers" ZQ a.f_Rack_first_numbers a.fd_Rack_first_numbers
 B_Rack_first_numbers:Binds K a.fd_Rack_first_numbers ["self"] []
 m_Rack_first_numbers:Meth K a.C_Rack "first_numbers" a.f_Rack_first_numbers
 F_Rack_take_first:Fun K "take_first" "Rack.take_first" Yd a.f_Rack_take_first a.fd_Rack_take_first
 B_Rack_take_first:Binds K a.fd_Rack_take_first ["self"] []
 m_Rack_take_first:Meth K a.C_Rack "take_first" a.f_Rack_take_first
 F_Book___init__:Fun K "__init__" "Book.__init__" Yt a.f_Book___init__ a.fd_Book___init__
 B_Book___init__:Binds K a.fd_Book___init__ ["self","slots","levels"] []
 M_Book:Mk K a.C_Book a.f_Book___init__
 F_Book_time:Fun K "time" "Book.time" XD a.f_Book_time a.fd_Book_time
 B_Book_time:Binds K a.fd_Book_time ["self"] []
 m_Book_time:Meth K a.C_Book "time" a.f_Book_time
 F_Book_waiting:Fun K "waiting" "Book.waiting" YD a.f_Book_waiting a.fd_Book_waiting
 B_Book_waiting:Binds K a.fd_Book_waiting ["self"] []
 m_Book_waiting:Meth K a.C_Book "waiting" a.f_Book_waiting
 F_Book_resting:Fun K "resting" "Book.resting" YF a.f_Book_resting a.fd_Book_resting
 B_Book_resting:Binds K a.fd_Book_resting ["self"] []
 m_Book_resting:Meth K a.C_Book "resting" a.f_Book_resting
 F_Book_due:Fun K "due" "Book.due" XY a.f_Book_due a.fd_Book_due
 B_Book_due:Binds K a.fd_Book_due ["self","number"] []
 m_Book_due:Meth K a.C_Book "due" a.f_Book_due
 F_Book_left:Fun K "left" "Book.left" XE a.f_Book_left a.fd_Book_left
 B_Book_left:Binds K a.fd_Book_left ["self","number"] []
 m_Book_left:Meth K a.C_Book "left" a.f_Book_left
 F_Book_soonest:Fun K "soonest" "Book.soonest" YE a.f_Book_soonest a.fd_Book_soonest
 B_Book_soonest:Binds K a.fd_Book_soonest ["self"] []
 m_Book_soonest:Meth K a.C_Book "soonest" a.f_Book_soonest
 f_check_tick:mg "check_tick"=some (.ref a.f_check_tick)
 F_check_tick:Fun K "check_tick" "check_tick" Xe a.f_check_tick a.fd_check_tick
 kp_check_tick:keepIn K (.ref a.f_check_tick)=true
 B_check_tick:Binds K a.fd_check_tick ["book","due"] []
 f_check_step:mg "check_step"=some (.ref a.f_check_step)
 F_check_step:Fun K "check_step" "check_step" Xf a.f_check_step a.fd_check_step
 kp_check_step:keepIn K (.ref a.f_check_step)=true
 B_check_step:Binds K a.fd_check_step ["step"] []
 f_check_stretch:mg "check_stretch"=some (.ref a.f_check_stretch)
 F_check_stretch:Fun K "check_stretch" "check_stretch" Yq a.f_check_stretch a.fd_check_stretch
 kp_check_stretch:keepIn K (.ref a.f_check_stretch)=true
 B_check_stretch:Binds K a.fd_check_stretch ["ticks"] []
 f_start_waiting:mg "start_waiting"=some (.ref a.f_start_waiting)
 F_start_waiting:Fun K "start_waiting" "start_waiting" Yp a.f_start_waiting a.fd_start_waiting
 kp_start_waiting:keepIn K (.ref a.f_start_waiting)=true
 B_start_waiting:Binds K a.fd_start_waiting ["book","number","tick"] []
 f_stop_waiting:mg "stop_waiting"=some (.ref a.f_stop_waiting)
 F_stop_waiting:Fun K "stop_waiting" "stop_waiting" Yz a.f_stop_waiting a.fd_stop_waiting
 kp_stop_waiting:keepIn K (.ref a.f_stop_waiting)=true
 B_stop_waiting:Binds K a.fd_stop_waiting ["book","number"] []
 f_forget:mg "forget"=some (.ref a.f_forget)
 F_forget:Fun K "forget" "forget" VR a.f_forget a.fd_forget
 kp_forget:keepIn K (.ref a.f_forget)=true
 B_forget:Binds K a.fd_forget ["book","number"] []
 f_set_alarm:mg "set_alarm"=some (.ref a.f_set_alarm)
 F_set_alarm:Fun K "set_alarm" "set_alarm" Xt a.f_set_alarm a.fd_set_alarm
 kp_set_alarm:keepIn K (.ref a.f_set_alarm)=true
 B_set_alarm:Binds K a.fd_set_alarm ["book","name","due","step"] []
 f_take_back:mg "take_back"=some (.ref a.f_take_back)
 F_take_back:Fun K "take_back" "take_back" Xs a.f_take_back a.fd_take_back
 kp_take_back:keepIn K (.ref a.f_take_back)=true
 B_take_back:Binds K a.fd_take_back ["book","number"] []
 f_move:mg "move"=some (.ref a.f_move)
 F_move:Fun K "move" "move" Sj a.f_move a.fd_move
 kp_move:keepIn K (.ref a.f_move)=true
 B_move:Binds K a.fd_move ["book","number","due"] []
 f_rest:mg "rest"=some (.ref a.f_rest)
 F_rest:Fun K "rest" "rest" Si a.f_rest a.fd_rest
 kp_rest:keepIn K (.ref a.f_rest)=true
 B_rest:Binds K a.fd_rest ["book","number"] []
 f_go_on:mg "go_on"=some (.ref a.f_go_on)
 F_go_on:Fun K "go_on" "go_on" UN a.f_go_on a.fd_go_on
 kp_go_on:keepIn K (.ref a.f_go_on)=true
 B_go_on:Binds K a.fd_go_on ["book","number"] []
 f_ring:mg "ring"=some (.ref a.f_ring)
 F_ring:Fun K "ring" "ring" Sh a.f_ring a.fd_ring
 kp_ring:keepIn K (.ref a.f_ring)=true
 B_ring:Binds K a.fd_ring ["book","number"] []
 f_turn_to:mg "turn_to"=some (.ref a.f_turn_to)
 F_turn_to:Fun K "turn_to" "turn_to" Vo a.f_turn_to a.fd_turn_to
 kp_turn_to:keepIn K (.ref a.f_turn_to)=true
 B_turn_to:Binds K a.fd_turn_to ["book","start"] []
 f_pass_ticks:mg "pass_ticks"=some (.ref a.f_pass_ticks)
 F_pass_ticks:Fun K "pass_ticks" "pass_ticks" Xd a.f_pass_ticks a.fd_pass_ticks
 kp_pass_ticks:keepIn K (.ref a.f_pass_ticks)=true
 B_pass_ticks:Binds K a.fd_pass_ticks ["book","ticks"] []
 f_rings_until:mg "rings_until"=some (.ref a.f_rings_until)
 F_rings_until:Fun K "rings_until" "rings_until" YU a.f_rings_until a.fd_rings_until
 kp_rings_until:keepIn K (.ref a.f_rings_until)=true
 B_rings_until:Binds K a.fd_rings_until ["book","number","end"] []
 f_ahead:mg "ahead"=some (.ref a.f_ahead)
 F_ahead:Fun K "ahead" "ahead" UO a.f_ahead a.fd_ahead
 kp_ahead:keepIn K (.ref a.f_ahead)=true
 B_ahead:Binds K a.fd_ahead ["book","ticks"] []
 f__law_cell:mg "_law_cell"=some (.ref a.f__law_cell)
 F__law_cell:Fun K "_law_cell" "_law_cell" XA a.f__law_cell a.fd__law_cell
 kp__law_cell:keepIn K (.ref a.f__law_cell)=true
 B__law_cell:Binds K a.fd__law_cell ["_law_script","_law_k"] []
 f__law_mix:mg "_law_mix"=some (.ref a.f__law_mix)
 F__law_mix:Fun K "_law_mix" "_law_mix" XV a.f__law_mix a.fd__law_mix
 kp__law_mix:keepIn K (.ref a.f__law_mix)=true
 B__law_mix:Binds K a.fd__law_mix ["_law_script","_law_k"] []
 f__law_new:mg "_law_new"=some (.ref a.f__law_new)
 F__law_new:Fun K "_law_new" "_law_new" XU a.f__law_new a.fd__law_new
 kp__law_new:keepIn K (.ref a.f__law_new)=true
 B__law_new:Binds K a.fd__law_new ["_law_slots","_law_levels"] []
 f__law_set:mg "_law_set"=some (.ref a.f__law_set)
 F__law_set:Fun K "_law_set" "_law_set" XT a.f__law_set a.fd__law_set
 kp__law_set:keepIn K (.ref a.f__law_set)=true
 B__law_set:Binds K a.fd__law_set ["_law_world","_law_name","_law_due","_law_step"] []
 f__law_move:mg "_law_move"=some (.ref a.f__law_move)
 F__law_move:Fun K "_law_move" "_law_move" Xx a.f__law_move a.fd__law_move
 kp__law_move:keepIn K (.ref a.f__law_move)=true
 B__law_move:Binds K a.fd__law_move ["_law_world","_law_number","_law_due"] []
 f__law_back:mg "_law_back"=some (.ref a.f__law_back)
 F__law_back:Fun K "_law_back" "_law_back" XB a.f__law_back a.fd__law_back
 kp__law_back:keepIn K (.ref a.f__law_back)=true
 B__law_back:Binds K a.fd__law_back ["_law_world","_law_number"] []
 f__law_rest:mg "_law_rest"=some (.ref a.f__law_rest)
 F__law_rest:Fun K "_law_rest" "_law_rest" Xv a.f__law_rest a.fd__law_rest
 kp__law_rest:keepIn K (.ref a.f__law_rest)=true
 B__law_rest:Binds K a.fd__law_rest ["_law_world","_law_number"] []
 f__law_on:mg "_law_on"=some (.ref a.f__law_on)
 F__law_on:Fun K "_law_on" "_law_on" Vp a.f__law_on a.fd__law_on
 kp__law_on:keepIn K (.ref a.f__law_on)=true
 B__law_on:Binds K a.fd__law_on ["_law_world","_law_number"] []
 f__law_pass:mg "_law_pass"=some (.ref a.f__law_pass)
 F__law_pass:Fun K "_law_pass" "_law_pass" Xw a.f__law_pass a.fd__law_pass
 kp__law_pass:keepIn K (.ref a.f__law_pass)=true
 B__law_pass:Binds K a.fd__law_pass ["_law_world","_law_ticks_here"] []
 f__law_wheels:mg "_law_wheels"=some (.ref a.f__law_wheels)
 F__law_wheels:Fun K "_law_wheels" "_law_wheels" YV a.f__law_wheels a.fd__law_wheels
 kp__law_wheels:keepIn K (.ref a.f__law_wheels)=true
 B__law_wheels:Binds K a.fd__law_wheels ["_law_script","_law_k"] []
 f__law_ticks:mg "_law_ticks"=some (.ref a.f__law_ticks)
 F__law_ticks:Fun K "_law_ticks" "_law_ticks" Xg a.f__law_ticks a.fd__law_ticks
 kp__law_ticks:keepIn K (.ref a.f__law_ticks)=true
 B__law_ticks:Binds K a.fd__law_ticks ["_law_script","_law_k","_law_world"] []
 f__law_deed:mg "_law_deed"=some (.ref a.f__law_deed)
 F__law_deed:Fun K "_law_deed" "_law_deed" Xz a.f__law_deed a.fd__law_deed
 kp__law_deed:keepIn K (.ref a.f__law_deed)=true
 B__law_deed:Binds K a.fd__law_deed ["_law_script","_law_k","_law_world"] []
 f__law_done:mg "_law_done"=some (.ref a.f__law_done)
 F__law_done:Fun K "_law_done" "_law_done" Xy a.f__law_done a.fd__law_done
 kp__law_done:keepIn K (.ref a.f__law_done)=true
 B__law_done:Binds K a.fd__law_done ["_law_world","_law_deed_here"] []
 f__law_asked:mg "_law_asked"=some (.ref a.f__law_asked)
 F__law_asked:Fun K "_law_asked" "_law_asked" Xh a.f__law_asked a.fd__law_asked
 kp__law_asked:keepIn K (.ref a.f__law_asked)=true
 B__law_asked:Binds K a.fd__law_asked ["_law_book","_law_deed_here"] []
 f__law_is:mg "_law_is"=some (.ref a.f__law_is)
 F__law_is:Fun K "_law_is" "_law_is" Vq a.f__law_is a.fd__law_is
 kp__law_is:keepIn K (.ref a.f__law_is)=true
 B__law_is:Binds K a.fd__law_is ["_law_found","_law_due"] []
 f__law_same:mg "_law_same"=some (.ref a.f__law_same)
 F__law_same:Fun K "_law_same" "_law_same" Xu a.f__law_same a.fd__law_same
 kp__law_same:keepIn K (.ref a.f__law_same)=true
 B__law_same:Binds K a.fd__law_same ["_law_book","_law_world"] []
 f_law:mg "law"=some (.ref a.f_law)
 F_law:Fun K "law" "law" s_law a.f_law a.fd_law
 ty_int_bool:kitOne K (.type "int") (.type "bool")=some false
 ty_int_tuple:kitOne K (.type "int") (.type "tuple")=some false
 ty_str_bool:kitOne K (.type "str") (.type "bool")=some false
 ty_str_tuple:kitOne K (.type "str") (.type "tuple")=some false
 ty_NoneType_bool:kitOne K (.type "NoneType") (.type "bool")=some false
 ty_NoneType_tuple:kitOne K (.type "NoneType") (.type "tuple")=some false
 ty_list_bool:kitOne K (.type "list") (.type "bool")=some false
 ty_list_tuple:kitOne K (.type "list") (.type "tuple")=some false
 b_len:mg "len"=none
 b_range:mg "range"=none
 b_sorted:mg "sorted"=none
 b_min:mg "min"=none
 b_max:mg "max"=none
 b_sum:mg "sum"=none
 b_isinstance:mg "isinstance"=none
 b_int:mg "int"=none
 b_bool:mg "bool"=none
 b_tuple:mg "tuple"=none
 b_list:mg "list"=none
 b_ValueError:mg "ValueError"=none
 b_enumerate:mg "enumerate"=none
 k_FEWEST_SLOTS:mg "FEWEST_SLOTS"=some (.int (2) a.t_FEWEST_SLOTS)
 k_MOST_SLOTS:mg "MOST_SLOTS"=some (.int (64) a.t_MOST_SLOTS)
 k_FEWEST_LEVELS:mg "FEWEST_LEVELS"=some (.int (1) a.t_FEWEST_LEVELS)
 k_MOST_LEVELS:mg "MOST_LEVELS"=some (.int (6) a.t_MOST_LEVELS)
theorem bq1{p:List Value->Prop}(h:∀a0,p [a0])(us:List Value)(hl:us.length=1):p us:=match us,hl with |[_],_=>h _
theorem bq2{p:List Value->Prop}(h:∀a0 a1,p [a0,a1])(us:List Value)(hl:us.length=2):p us:=match us,hl with |[_,_],_=>h _ _
theorem bq3{p:List Value->Prop}(h:∀a0 a1 a2,p [a0,a1,a2])(us:List Value)(hl:us.length=3):p us:=match us,hl with |[_,_,_],_=>h _ _ _
theorem bq4{p:List Value->Prop}(h:∀a0 a1 a2 a3,p [a0,a1,a2,a3])(us:List Value)(hl:us.length=4):p us:=match us,hl with |[_,_,_,_],_=>h _ _ _ _
set_option maxHeartbeats 0 in
open W in
theorem txt_mk{K:W.Frag}{h:Heap}{mg:Str->Option Value}(X:K.In h)(G:h.Ns mainGlobals mg)
 {f0 f1 f2 f3 f4 f5 f6 f7 f8 f9 f10 f11 f12 f13 f14 f15 f16 f17 f18 f19 f20 f21 f22 f23 f24 f25 f26 f27 f28 f29 f30 f31 f32 f33 f34 f35 f36 f37 f38 f39 f40 f41 f42 f43 f44 f45 f46 f47 f48 f49 f50 f51 f52 f53 f54 f55 f56 f57:Addr}
 {o0 o1 o2 o3 o4 o5 o6 o7 o8 o9 o10 o11 o12 o13 o14 o15 o16 o17 o18 o19 o20 o21 o22 o23 o24 o25 o26 o27 o28 o29 o30 o31 o32 o33 o34 o35 o36 o37 o38 o39 o40 o41 o42 o43 o44 o45 o46 o47 o48 o49 o50 o51 o52 o53 o54 o55 o56 o57 k0 k1 k2 k3 k4 k5 k6 k7 k8 k9 k10 k11 k12 k13 k14 k15 k16 k17 k18 k19 k20 k21 k22 k23 k24 k25 k26 k27 k28 k29 k30 k31 k32 k33 k34 k35 k36 k37 k38 k39 k40 k41 k42 k43 k44 k45 k46 k47 k48 k49 k50 k51 k52 k53 k54 k55 k56 k57 d0 d1 d2 d3 d4 d5 d6 d7 d8 d9 d10 d11 d12 d13 d14 d15 d16 d17 d18 d19 d20 d21 d22 d23 d24 d25 d26 d27 d28 d29 d30 d31 d32 d33 d34 d35 d36 d37 d38 d39 d40 d41 d42 d43 d44 d45 d46 d47 d48 d49 d50 d51 d52 d53 d54 d55 d56 d57 p0 p1 p2 p3 p4 p5 p6 p7 p8 p9 p10 p11 p12 p13 p14 p15 p16 p17 p18 p19 p20 p21 p22 p23 p24 p25 p26 p27 p28 p29 p30 p31 p32 p33 p34 p35 p36 p37 p38 p39 p40 p41 p42 p43 p44 p45 p46 p47 p48 p49 p50 p51 p52 p53 p54 p55 p56 p57 c0 c1 c2 c3 c4 c5 c6 c7 c8 c9 c10 c11 c12 c13 c14 c15 c16 c17 c18 c19 c20 c21 c22 c23 c24 c25 c26 c27 c28 c29 c30 c31 c32 c33 c34 c35 c36 c37 c38 c39 c40 c41 c42 c43 c44 c45 c46 c47 c48 c49 c50 c51 c52 c53 c54 c55 c56 c57 t0 t1 t2 t3 t4 t5 t6 t7 t8 t9 t10 t11 t12 t13 t14 t15 t16 t17 t18 t19 t20 t21 t22 t23 t24 t25 t26 t27 t28 t29 t30 t31 t32 t33 t34 t35 t36 t37 t38 t39 t40 t41 t42 t43 t44 t45 t46 t47 t48 t49 t50 t51 t52 t53 t54 t55 t56 t57:Value}
 {u0 u1 u2 u3 u4 u5 u6 u7 u8 u9 u10 u11 u12 u13 u14 u15 u16 u17 u18 u19 u20 u21 u22 u23 u24 u25 u26 u27 u28 u29 u30 u31 u32 u33 u34 u35 u36 u37 u38 u39 u40 u41 u42 u43 u44 u45 u46 u47 u48 u49 u50 u51 u52 u53 u54 u55 u56 u57 n0 n1 n2 n3 n4 n5 n6 n7 n8 n9 n10 n11 n12 n13 n14 n15 n16 n17 n18 n19 n20 n21 n22 n23 n24 n25 n26 n27 n28 n29 n30 n31 n32 n33 n34 n35 n36 n37 n38 n39 n40 n41 n42 n43 n44 n45 n46 n47 n48 n49 n50 n51 n52 n53 n54 n55 n56 n57:Option Addr}
 {l0 l1 l2 l3 l4 l5 l6 l7 l8 l9 l10 l11 l12 l13 l14 l15 l16 l17 l18 l19 l20 l21 l22 l23 l24 l25 l26 l27 l28 l29 l30 l31 l32 l33 l34 l35 l36 l37 l38 l39 l40 l41 l42 l43 l44 l45 l46 l47 l48 l49 l50 l51 l52 l53 l54 l55 l56 l57:Array (Option Value)}
 {C_Wheels:Addr}
 {C_Row:Addr}
 {C_Rack:Addr}
 {C_Book:Addr}
 {C_TickError:Addr}
 {C_BadWheels:Addr}
 {C_Past:Addr}
 {C_NotThere:Addr}
 {t_FEWEST_SLOTS:Tok}
 {t_MOST_SLOTS:Tok}
 {t_FEWEST_LEVELS:Tok}
 {t_MOST_LEVELS:Tok}
(e1:nsIn K mainGlobals "Wheels"=some (some (.ref C_Wheels)))
(e2:plainGet K C_Wheels Str.empty=true)
(e3:hasDictIn K C_Wheels=true)
(e4:plainOver K C_Wheels=true)
(e5:findIn K (.ref C_Wheels) "__setattr__"=some (some (.builtin "object.__setattr__")))
(e6:findIn K (.ref C_Wheels) "slots"=some none)
(e7:findIn K (.ref C_Wheels) "spans"=some none)
(e8:nsIn K mainGlobals "Row"=some (some (.ref C_Row)))
(e9:plainGet K C_Row Str.empty=true)
(e10:hasDictIn K C_Row=true)
(e11:plainOver K C_Row=true)
(e12:findIn K (.ref C_Row) "__setattr__"=some (some (.builtin "object.__setattr__")))
(e13:findIn K (.ref C_Row) "span"=some none)
(e14:findIn K (.ref C_Row) "filled"=some none)
(e15:findIn K (.ref C_Row) "rising"=some none)
(e16:nsIn K mainGlobals "Rack"=some (some (.ref C_Rack)))
(e17:plainGet K C_Rack Str.empty=true)
(e18:hasDictIn K C_Rack=true)
(e19:plainOver K C_Rack=true)
(e20:findIn K (.ref C_Rack) "__setattr__"=some (some (.builtin "object.__setattr__")))
(e21:findIn K (.ref C_Rack) "wheels"=some none)
(e22:findIn K (.ref C_Rack) "rows"=some none)
(e23:nsIn K mainGlobals "Book"=some (some (.ref C_Book)))
(e24:plainGet K C_Book Str.empty=true)
(e25:hasDictIn K C_Book=true)
(e26:plainOver K C_Book=true)
(e27:findIn K (.ref C_Book) "__setattr__"=some (some (.builtin "object.__setattr__")))
(e28:findIn K (.ref C_Book) "rack"=some none)
(e29:findIn K (.ref C_Book) "now"=some none)
(e30:findIn K (.ref C_Book) "next_number"=some none)
(e31:findIn K (.ref C_Book) "names"=some none)
(e32:findIn K (.ref C_Book) "steps"=some none)
(e33:findIn K (.ref C_Book) "ticks"=some none)
(e34:findIn K (.ref C_Book) "kept_ticks"=some none)
(e35:nsIn K mainGlobals "TickError"=some (some (.ref C_TickError)))
(e36:mroIn K C_TickError (.type "object")=some true)
(e37:instIn K (.ref C_TickError) (.type "tuple")=some false)
(e38:subIn K (.ref C_TickError) (.type "BaseException")=some true)
(e39:nsIn K mainGlobals "BadWheels"=some (some (.ref C_BadWheels)))
(e40:excIn K C_BadWheels [.type "ValueError",.type "Exception",.type "BaseException",.type "object"] "ValueError.__new__"=true)
(e41:mroIn K C_BadWheels (.type "object")=some true)
(e42:typeIn K (.ref C_BadWheels)=some (.type "type"))
(e43:nsIn K mainGlobals "Past"=some (some (.ref C_Past)))
(e44:excIn K C_Past [.type "ValueError",.type "Exception",.type "BaseException",.type "object"] "ValueError.__new__"=true)
(e45:mroIn K C_Past (.type "object")=some true)
(e46:mroIn K C_Past (.type "BaseException")=some true)
(e47:findIn K (.ref C_Past) "__getattribute__"=some (some (.builtin "BaseException.__getattribute__")))
(e48:findIn K (.ref C_Past) "__getattr__"=some none)
(e49:findIn K (.ref C_Past) "__class__"=some (some (.builtin "object.__class__")))
(e50:typeIn K (.ref C_Past)=some (.type "type"))
(e51:subIn K (.ref C_Past) (.type "ValueError")=some true)
(e52:nsIn K mainGlobals "NotThere"=some (some (.ref C_NotThere)))
(e53:excIn K C_NotThere [.type "ValueError",.type "Exception",.type "BaseException",.type "object"] "ValueError.__new__"=true)
(e54:mroIn K C_NotThere (.type "object")=some true)
(e55:mroIn K C_NotThere (.type "BaseException")=some true)
(e56:findIn K (.ref C_NotThere) "__getattribute__"=some (some (.builtin "BaseException.__getattribute__")))
(e57:findIn K (.ref C_NotThere) "__getattr__"=some none)
(e58:findIn K (.ref C_NotThere) "__class__"=some (some (.builtin "object.__class__")))
(e59:typeIn K (.ref C_NotThere)=some (.type "type"))
(e60:subIn K (.ref C_NotThere) (.type "ValueError")=some true)
(e61:subIn K (.ref C_Past) (.ref C_Past)=some true)
(e62:subIn K (.ref C_Past) (.ref C_TickError)=some true)
(e63:subIn K (.ref C_Past) (.ref C_BadWheels)=some false)
(e64:subIn K (.ref C_Past) (.ref C_NotThere)=some false)
(e65:subIn K (.ref C_NotThere) (.ref C_NotThere)=some true)
(e66:subIn K (.ref C_NotThere) (.ref C_TickError)=some true)
(e67:subIn K (.ref C_NotThere) (.ref C_BadWheels)=some false)
(e68:subIn K (.ref C_NotThere) (.ref C_Past)=some false)
(e69:nsIn K mainGlobals "check_wheels"=some (some (.ref f0)))
(e70:K.lookup f0=some ⟨o0,u0,.func (fnOf "check_wheels" "check_wheels" (Zs YA) (Zo YA) (Zd YA) .none k0 d0 p0 n0 c0 t0),l0⟩)
(e71:codeIn K c0 "check_wheels"=true)
(e72:keepIn K (.ref f0)=true)
(e73:nsIn K mainGlobals "slot_spans"=some (some (.ref f1)))
(e74:K.lookup f1=some ⟨o1,u1,.func (fnOf "slot_spans" "slot_spans" (Zs Xc) (Zo Xc) (Zd Xc) .none k1 d1 p1 n1 c1 t1),l1⟩)
(e75:codeIn K c1 "slot_spans"=true)
(e76:keepIn K (.ref f1)=true)
(e77:findIn K (.ref C_Wheels) "__init__"=some (some (.ref f2)))
(e78:isFn K (.ref f2)=true)
(e79:K.lookup f2=some ⟨o2,u2,.func (fnOf "__init__" "Wheels.__init__" (Zs Yc) (Zo Yc) (Zd Yc) .none k2 d2 p2 n2 c2 t2),l2⟩)
(e80:codeIn K c2 "Wheels.__init__"=true)
(e81:keepIn K (.ref f2)=true)
(e82:makesIn K C_Wheels=true)
(e83:keepIn K (.ref C_Wheels)=true)
(e84:findIn K (.ref C_Wheels) "place"=some (some (.ref f3)))
(e85:isFn K (.ref f3)=true)
(e86:K.lookup f3=some ⟨o3,u3,.func (fnOf "place" "Wheels.place" (Zs YB) (Zo YB) (Zd YB) .none k3 d3 p3 n3 c3 t3),l3⟩)
(e87:codeIn K c3 "Wheels.place"=true)
(e88:keepIn K (.ref f3)=true)
(e89:nsIn K mainGlobals "position"=some (some (.ref f4)))
(e90:K.lookup f4=some ⟨o4,u4,.func (fnOf "position" "position" (Zs XR) (Zo XR) (Zd XR) .none k4 d4 p4 n4 c4 t4),l4⟩)
(e91:codeIn K c4 "position"=true)
(e92:keepIn K (.ref f4)=true)
(e93:findIn K (.ref C_Row) "__init__"=some (some (.ref f5)))
(e94:isFn K (.ref f5)=true)
(e95:K.lookup f5=some ⟨o5,u5,.func (fnOf "__init__" "Row.__init__" (Zs YC) (Zo YC) (Zd YC) .none k5 d5 p5 n5 c5 t5),l5⟩)
(e96:codeIn K c5 "Row.__init__"=true)
(e97:keepIn K (.ref f5)=true)
(e98:makesIn K C_Row=true)
(e99:keepIn K (.ref C_Row)=true)
(e100:findIn K (.ref C_Row) "put"=some (some (.ref f6)))
(e101:isFn K (.ref f6)=true)
(e102:K.lookup f6=some ⟨o6,u6,.func (fnOf "put" "Row.put" (Zs Vr) (Zo Vr) (Zd Vr) .none k6 d6 p6 n6 c6 t6),l6⟩)
(e103:codeIn K c6 "Row.put"=true)
(e104:keepIn K (.ref f6)=true)
(e105:findIn K (.ref C_Row) "take"=some (some (.ref f7)))
(e106:isFn K (.ref f7)=true)
(e107:K.lookup f7=some ⟨o7,u7,.func (fnOf "take" "Row.take" (Zs XW) (Zo XW) (Zd XW) .none k7 d7 p7 n7 c7 t7),l7⟩)
(e108:codeIn K c7 "Row.take"=true)
(e109:keepIn K (.ref f7)=true)
(e110:findIn K (.ref C_Row) "take_slot"=some (some (.ref f8)))
(e111:isFn K (.ref f8)=true)
(e112:K.lookup f8=some ⟨o8,u8,.func (fnOf "take_slot" "Row.take_slot" (Zs Yr) (Zo Yr) (Zd Yr) .none k8 d8 p8 n8 c8 t8),l8⟩)
(e113:codeIn K c8 "Row.take_slot"=true)
(e114:keepIn K (.ref f8)=true)
(e115:findIn K (.ref C_Row) "numbers_in"=some (some (.ref f9)))
(e116:isFn K (.ref f9)=true)
(e117:K.lookup f9=some ⟨o9,u9,.func (fnOf "numbers_in" "Row.numbers_in" (Zs Yk) (Zo Yk) (Zd Yk) .none k9 d9 p9 n9 c9 t9),l9⟩)
(e118:codeIn K c9 "Row.numbers_in"=true)
(e119:keepIn K (.ref f9)=true)
(e120:findIn K (.ref C_Rack) "__init__"=some (some (.ref f10)))
(e121:isFn K (.ref f10)=true)
(e122:K.lookup f10=some ⟨o10,u10,.func (fnOf "__init__" "Rack.__init__" (Zs Ys) (Zo Ys) (Zd Ys) .none k10 d10 p10 n10 c10 t10),l10⟩)
(e123:codeIn K c10 "Rack.__init__"=true)
(e124:keepIn K (.ref f10)=true)
(e125:makesIn K C_Rack=true)
(e126:keepIn K (.ref C_Rack)=true)
(e127:findIn K (.ref C_Rack) "row_of"=some (some (.ref f11)))
(e128:isFn K (.ref f11)=true)
(e129:K.lookup f11=some ⟨o11,u11,.func (fnOf "row_of" "Rack.row_of" (Zs YW) (Zo YW) (Zd YW) .none k11 d11 p11 n11 c11 t11),l11⟩)
(e130:codeIn K c11 "Rack.row_of"=true)
(e131:keepIn K (.ref f11)=true)
(e132:findIn K (.ref C_Rack) "put"=some (some (.ref f12)))
(e133:isFn K (.ref f12)=true)
(e134:K.lookup f12=some ⟨o12,u12,.func (fnOf "put" "Rack.put" (Zs XX) (Zo XX) (Zd XX) .none k12 d12 p12 n12 c12 t12),l12⟩)
(e135:codeIn K c12 "Rack.put"=true)
(e136:keepIn K (.ref f12)=true)
(e137:findIn K (.ref C_Rack) "take"=some (some (.ref f13)))
(e138:isFn K (.ref f13)=true)
(e139:K.lookup f13=some ⟨o13,u13,.func (fnOf "take" "Rack.take" (Zs XC) (Zo XC) (Zd XC) .none k13 d13 p13 n13 c13 t13),l13⟩)
(e140:codeIn K c13 "Rack.take"=true)
(e141:keepIn K (.ref f13)=true)
(e142:findIn K (.ref C_Rack) "first_row"=some (some (.ref f14)))
(e143:isFn K (.ref f14)=true)
(e144:K.lookup f14=some ⟨o14,u14,.func (fnOf "first_row" "Rack.first_row" (Zs Yl) (Zo Yl) (Zd Yl) .none k14 d14 p14 n14 c14 t14),l14⟩)
(e145:codeIn K c14 "Rack.first_row"=true)
(e146:keepIn K (.ref f14)=true)
(e147:findIn K (.ref C_Rack) "first_start"=some (some (.ref f15)))
(e148:isFn K (.ref f15)=true)
(e149:K.lookup f15=some ⟨o15,u15,.func (fnOf "first_start" "Rack.first_start" (Zs ZY) (Zo ZY) (Zd ZY) .none k15 d15 p15 n15 c15 t15),l15⟩)
(e150:codeIn K c15 "Rack.first_start"=true)
(e151:keepIn K (.ref f15)=true)
(e152:findIn K (.ref C_Rack) "first_numbers"=some (some (.ref f16)))
(e153:isFn K (.ref f16)=true)
(e154:K.lookup f16=some ⟨o16,u16,.func (fnOf "first_numbers" "Rack.first_numbers" (Zs ZQ) (Zo ZQ) (Zd ZQ) .none k16 d16 p16 n16 c16 t16),l16⟩)
(e155:codeIn K c16 "Rack.first_numbers"=true)
(e156:keepIn K (.ref f16)=true)
(e157:findIn K (.ref C_Rack) "take_first"=some (some (.ref f17)))
(e158:isFn K (.ref f17)=true)
(e159:K.lookup f17=some ⟨o17,u17,.func (fnOf "take_first" "Rack.take_first" (Zs Yd) (Zo Yd) (Zd Yd) .none k17 d17 p17 n17 c17 t17),l17⟩)
(e160:codeIn K c17 "Rack.take_first"=true)
(e161:keepIn K (.ref f17)=true)
(e162:findIn K (.ref C_Book) "__init__"=some (some (.ref f18)))
(e163:isFn K (.ref f18)=true)
(e164:K.lookup f18=some ⟨o18,u18,.func (fnOf "__init__" "Book.__init__" (Zs Yt) (Zo Yt) (Zd Yt) .none k18 d18 p18 n18 c18 t18),l18⟩)
(e165:codeIn K c18 "Book.__init__"=true)
(e166:keepIn K (.ref f18)=true)
(e167:makesIn K C_Book=true)
(e168:keepIn K (.ref C_Book)=true)
(e169:findIn K (.ref C_Book) "time"=some (some (.ref f19)))
(e170:isFn K (.ref f19)=true)
(e171:K.lookup f19=some ⟨o19,u19,.func (fnOf "time" "Book.time" (Zs XD) (Zo XD) (Zd XD) .none k19 d19 p19 n19 c19 t19),l19⟩)
(e172:codeIn K c19 "Book.time"=true)
(e173:keepIn K (.ref f19)=true)
(e174:findIn K (.ref C_Book) "waiting"=some (some (.ref f20)))
(e175:isFn K (.ref f20)=true)
(e176:K.lookup f20=some ⟨o20,u20,.func (fnOf "waiting" "Book.waiting" (Zs YD) (Zo YD) (Zd YD) .none k20 d20 p20 n20 c20 t20),l20⟩)
(e177:codeIn K c20 "Book.waiting"=true)
(e178:keepIn K (.ref f20)=true)
(e179:findIn K (.ref C_Book) "resting"=some (some (.ref f21)))
(e180:isFn K (.ref f21)=true)
(e181:K.lookup f21=some ⟨o21,u21,.func (fnOf "resting" "Book.resting" (Zs YF) (Zo YF) (Zd YF) .none k21 d21 p21 n21 c21 t21),l21⟩)
(e182:codeIn K c21 "Book.resting"=true)
(e183:keepIn K (.ref f21)=true)
(e184:findIn K (.ref C_Book) "due"=some (some (.ref f22)))
(e185:isFn K (.ref f22)=true)
(e186:K.lookup f22=some ⟨o22,u22,.func (fnOf "due" "Book.due" (Zs XY) (Zo XY) (Zd XY) .none k22 d22 p22 n22 c22 t22),l22⟩)
(e187:codeIn K c22 "Book.due"=true)
(e188:keepIn K (.ref f22)=true)
(e189:findIn K (.ref C_Book) "left"=some (some (.ref f23)))
(e190:isFn K (.ref f23)=true)
(e191:K.lookup f23=some ⟨o23,u23,.func (fnOf "left" "Book.left" (Zs XE) (Zo XE) (Zd XE) .none k23 d23 p23 n23 c23 t23),l23⟩)
(e192:codeIn K c23 "Book.left"=true)
(e193:keepIn K (.ref f23)=true)
(e194:findIn K (.ref C_Book) "soonest"=some (some (.ref f24)))
(e195:isFn K (.ref f24)=true)
(e196:K.lookup f24=some ⟨o24,u24,.func (fnOf "soonest" "Book.soonest" (Zs YE) (Zo YE) (Zd YE) .none k24 d24 p24 n24 c24 t24),l24⟩)
(e197:codeIn K c24 "Book.soonest"=true)
(e198:keepIn K (.ref f24)=true)
(e199:nsIn K mainGlobals "check_tick"=some (some (.ref f25)))
(e200:K.lookup f25=some ⟨o25,u25,.func (fnOf "check_tick" "check_tick" (Zs Xe) (Zo Xe) (Zd Xe) .none k25 d25 p25 n25 c25 t25),l25⟩)
(e201:codeIn K c25 "check_tick"=true)
(e202:keepIn K (.ref f25)=true)
(e203:nsIn K mainGlobals "check_step"=some (some (.ref f26)))
(e204:K.lookup f26=some ⟨o26,u26,.func (fnOf "check_step" "check_step" (Zs Xf) (Zo Xf) (Zd Xf) .none k26 d26 p26 n26 c26 t26),l26⟩)
(e205:codeIn K c26 "check_step"=true)
(e206:keepIn K (.ref f26)=true)
(e207:nsIn K mainGlobals "check_stretch"=some (some (.ref f27)))
(e208:K.lookup f27=some ⟨o27,u27,.func (fnOf "check_stretch" "check_stretch" (Zs Yq) (Zo Yq) (Zd Yq) .none k27 d27 p27 n27 c27 t27),l27⟩)
(e209:codeIn K c27 "check_stretch"=true)
(e210:keepIn K (.ref f27)=true)
(e211:nsIn K mainGlobals "start_waiting"=some (some (.ref f28)))
(e212:K.lookup f28=some ⟨o28,u28,.func (fnOf "start_waiting" "start_waiting" (Zs Yp) (Zo Yp) (Zd Yp) .none k28 d28 p28 n28 c28 t28),l28⟩)
(e213:codeIn K c28 "start_waiting"=true)
(e214:keepIn K (.ref f28)=true)
(e215:nsIn K mainGlobals "stop_waiting"=some (some (.ref f29)))
(e216:K.lookup f29=some ⟨o29,u29,.func (fnOf "stop_waiting" "stop_waiting" (Zs Yz) (Zo Yz) (Zd Yz) .none k29 d29 p29 n29 c29 t29),l29⟩)
(e217:codeIn K c29 "stop_waiting"=true)
(e218:keepIn K (.ref f29)=true)
(e219:nsIn K mainGlobals "forget"=some (some (.ref f30)))
(e220:K.lookup f30=some ⟨o30,u30,.func (fnOf "forget" "forget" (Zs VR) (Zo VR) (Zd VR) .none k30 d30 p30 n30 c30 t30),l30⟩)
(e221:codeIn K c30 "forget"=true)
(e222:keepIn K (.ref f30)=true)
(e223:nsIn K mainGlobals "set_alarm"=some (some (.ref f31)))
(e224:K.lookup f31=some ⟨o31,u31,.func (fnOf "set_alarm" "set_alarm" (Zs Xt) (Zo Xt) (Zd Xt) .none k31 d31 p31 n31 c31 t31),l31⟩)
(e225:codeIn K c31 "set_alarm"=true)
(e226:keepIn K (.ref f31)=true)
(e227:nsIn K mainGlobals "take_back"=some (some (.ref f32)))
(e228:K.lookup f32=some ⟨o32,u32,.func (fnOf "take_back" "take_back" (Zs Xs) (Zo Xs) (Zd Xs) .none k32 d32 p32 n32 c32 t32),l32⟩)
(e229:codeIn K c32 "take_back"=true)
(e230:keepIn K (.ref f32)=true)
(e231:nsIn K mainGlobals "move"=some (some (.ref f33)))
(e232:K.lookup f33=some ⟨o33,u33,.func (fnOf "move" "move" (Zs Sj) (Zo Sj) (Zd Sj) .none k33 d33 p33 n33 c33 t33),l33⟩)
(e233:codeIn K c33 "move"=true)
(e234:keepIn K (.ref f33)=true)
(e235:nsIn K mainGlobals "rest"=some (some (.ref f34)))
(e236:K.lookup f34=some ⟨o34,u34,.func (fnOf "rest" "rest" (Zs Si) (Zo Si) (Zd Si) .none k34 d34 p34 n34 c34 t34),l34⟩)
(e237:codeIn K c34 "rest"=true)
(e238:keepIn K (.ref f34)=true)
(e239:nsIn K mainGlobals "go_on"=some (some (.ref f35)))
(e240:K.lookup f35=some ⟨o35,u35,.func (fnOf "go_on" "go_on" (Zs UN) (Zo UN) (Zd UN) .none k35 d35 p35 n35 c35 t35),l35⟩)
(e241:codeIn K c35 "go_on"=true)
(e242:keepIn K (.ref f35)=true)
(e243:nsIn K mainGlobals "ring"=some (some (.ref f36)))
(e244:K.lookup f36=some ⟨o36,u36,.func (fnOf "ring" "ring" (Zs Sh) (Zo Sh) (Zd Sh) .none k36 d36 p36 n36 c36 t36),l36⟩)
(e245:codeIn K c36 "ring"=true)
(e246:keepIn K (.ref f36)=true)
(e247:nsIn K mainGlobals "turn_to"=some (some (.ref f37)))
(e248:K.lookup f37=some ⟨o37,u37,.func (fnOf "turn_to" "turn_to" (Zs Vo) (Zo Vo) (Zd Vo) .none k37 d37 p37 n37 c37 t37),l37⟩)
(e249:codeIn K c37 "turn_to"=true)
(e250:keepIn K (.ref f37)=true)
(e251:nsIn K mainGlobals "pass_ticks"=some (some (.ref f38)))
(e252:K.lookup f38=some ⟨o38,u38,.func (fnOf "pass_ticks" "pass_ticks" (Zs Xd) (Zo Xd) (Zd Xd) .none k38 d38 p38 n38 c38 t38),l38⟩)
(e253:codeIn K c38 "pass_ticks"=true)
(e254:keepIn K (.ref f38)=true)
(e255:nsIn K mainGlobals "rings_until"=some (some (.ref f39)))
(e256:K.lookup f39=some ⟨o39,u39,.func (fnOf "rings_until" "rings_until" (Zs YU) (Zo YU) (Zd YU) .none k39 d39 p39 n39 c39 t39),l39⟩)
(e257:codeIn K c39 "rings_until"=true)
(e258:keepIn K (.ref f39)=true)
(e259:nsIn K mainGlobals "ahead"=some (some (.ref f40)))
(e260:K.lookup f40=some ⟨o40,u40,.func (fnOf "ahead" "ahead" (Zs UO) (Zo UO) (Zd UO) .none k40 d40 p40 n40 c40 t40),l40⟩)
(e261:codeIn K c40 "ahead"=true)
(e262:keepIn K (.ref f40)=true)
(e263:nsIn K mainGlobals "_law_cell"=some (some (.ref f41)))
(e264:K.lookup f41=some ⟨o41,u41,.func (fnOf "_law_cell" "_law_cell" (Zs XA) (Zo XA) (Zd XA) .none k41 d41 p41 n41 c41 t41),l41⟩)
(e265:codeIn K c41 "_law_cell"=true)
(e266:keepIn K (.ref f41)=true)
(e267:nsIn K mainGlobals "_law_mix"=some (some (.ref f42)))
(e268:K.lookup f42=some ⟨o42,u42,.func (fnOf "_law_mix" "_law_mix" (Zs XV) (Zo XV) (Zd XV) .none k42 d42 p42 n42 c42 t42),l42⟩)
(e269:codeIn K c42 "_law_mix"=true)
(e270:keepIn K (.ref f42)=true)
(e271:nsIn K mainGlobals "_law_new"=some (some (.ref f43)))
(e272:K.lookup f43=some ⟨o43,u43,.func (fnOf "_law_new" "_law_new" (Zs XU) (Zo XU) (Zd XU) .none k43 d43 p43 n43 c43 t43),l43⟩)
(e273:codeIn K c43 "_law_new"=true)
(e274:keepIn K (.ref f43)=true)
(e275:nsIn K mainGlobals "_law_set"=some (some (.ref f44)))
(e276:K.lookup f44=some ⟨o44,u44,.func (fnOf "_law_set" "_law_set" (Zs XT) (Zo XT) (Zd XT) .none k44 d44 p44 n44 c44 t44),l44⟩)
(e277:codeIn K c44 "_law_set"=true)
(e278:keepIn K (.ref f44)=true)
(e279:nsIn K mainGlobals "_law_move"=some (some (.ref f45)))
(e280:K.lookup f45=some ⟨o45,u45,.func (fnOf "_law_move" "_law_move" (Zs Xx) (Zo Xx) (Zd Xx) .none k45 d45 p45 n45 c45 t45),l45⟩)
(e281:codeIn K c45 "_law_move"=true)
(e282:keepIn K (.ref f45)=true)
(e283:nsIn K mainGlobals "_law_back"=some (some (.ref f46)))
(e284:K.lookup f46=some ⟨o46,u46,.func (fnOf "_law_back" "_law_back" (Zs XB) (Zo XB) (Zd XB) .none k46 d46 p46 n46 c46 t46),l46⟩)
(e285:codeIn K c46 "_law_back"=true)
(e286:keepIn K (.ref f46)=true)
(e287:nsIn K mainGlobals "_law_rest"=some (some (.ref f47)))
(e288:K.lookup f47=some ⟨o47,u47,.func (fnOf "_law_rest" "_law_rest" (Zs Xv) (Zo Xv) (Zd Xv) .none k47 d47 p47 n47 c47 t47),l47⟩)
(e289:codeIn K c47 "_law_rest"=true)
(e290:keepIn K (.ref f47)=true)
(e291:nsIn K mainGlobals "_law_on"=some (some (.ref f48)))
(e292:K.lookup f48=some ⟨o48,u48,.func (fnOf "_law_on" "_law_on" (Zs Vp) (Zo Vp) (Zd Vp) .none k48 d48 p48 n48 c48 t48),l48⟩)
(e293:codeIn K c48 "_law_on"=true)
(e294:keepIn K (.ref f48)=true)
(e295:nsIn K mainGlobals "_law_pass"=some (some (.ref f49)))
(e296:K.lookup f49=some ⟨o49,u49,.func (fnOf "_law_pass" "_law_pass" (Zs Xw) (Zo Xw) (Zd Xw) .none k49 d49 p49 n49 c49 t49),l49⟩)
(e297:codeIn K c49 "_law_pass"=true)
(e298:keepIn K (.ref f49)=true)
(e299:nsIn K mainGlobals "_law_wheels"=some (some (.ref f50)))
(e300:K.lookup f50=some ⟨o50,u50,.func (fnOf "_law_wheels" "_law_wheels" (Zs YV) (Zo YV) (Zd YV) .none k50 d50 p50 n50 c50 t50),l50⟩)
(e301:codeIn K c50 "_law_wheels"=true)
(e302:keepIn K (.ref f50)=true)
(e303:nsIn K mainGlobals "_law_ticks"=some (some (.ref f51)))
(e304:K.lookup f51=some ⟨o51,u51,.func (fnOf "_law_ticks" "_law_ticks" (Zs Xg) (Zo Xg) (Zd Xg) .none k51 d51 p51 n51 c51 t51),l51⟩)
(e305:codeIn K c51 "_law_ticks"=true)
(e306:keepIn K (.ref f51)=true)
(e307:nsIn K mainGlobals "_law_deed"=some (some (.ref f52)))
(e308:K.lookup f52=some ⟨o52,u52,.func (fnOf "_law_deed" "_law_deed" (Zs Xz) (Zo Xz) (Zd Xz) .none k52 d52 p52 n52 c52 t52),l52⟩)
(e309:codeIn K c52 "_law_deed"=true)
(e310:keepIn K (.ref f52)=true)
(e311:nsIn K mainGlobals "_law_done"=some (some (.ref f53)))
(e312:K.lookup f53=some ⟨o53,u53,.func (fnOf "_law_done" "_law_done" (Zs Xy) (Zo Xy) (Zd Xy) .none k53 d53 p53 n53 c53 t53),l53⟩)
(e313:codeIn K c53 "_law_done"=true)
(e314:keepIn K (.ref f53)=true)
(e315:nsIn K mainGlobals "_law_asked"=some (some (.ref f54)))
(e316:K.lookup f54=some ⟨o54,u54,.func (fnOf "_law_asked" "_law_asked" (Zs Xh) (Zo Xh) (Zd Xh) .none k54 d54 p54 n54 c54 t54),l54⟩)
(e317:codeIn K c54 "_law_asked"=true)
(e318:keepIn K (.ref f54)=true)
(e319:nsIn K mainGlobals "_law_is"=some (some (.ref f55)))
(e320:K.lookup f55=some ⟨o55,u55,.func (fnOf "_law_is" "_law_is" (Zs Vq) (Zo Vq) (Zd Vq) .none k55 d55 p55 n55 c55 t55),l55⟩)
(e321:codeIn K c55 "_law_is"=true)
(e322:keepIn K (.ref f55)=true)
(e323:nsIn K mainGlobals "_law_same"=some (some (.ref f56)))
(e324:K.lookup f56=some ⟨o56,u56,.func (fnOf "_law_same" "_law_same" (Zs Xu) (Zo Xu) (Zd Xu) .none k56 d56 p56 n56 c56 t56),l56⟩)
(e325:codeIn K c56 "_law_same"=true)
(e326:keepIn K (.ref f56)=true)
(e327:nsIn K mainGlobals "law"=some (some (.ref f57)))
(e328:K.lookup f57=some ⟨o57,u57,.func (fnOf "law" "law" (Zs s_law) (Zo s_law) (Zd s_law) .none k57 d57 p57 n57 c57 t57),l57⟩)
(e329:codeIn K c57 "law"=true)
(e330:keepIn K (.ref f57)=true)
(e331:subIn K (.type "int") (.type "bool")=some false)
(e332:subIn K (.type "int") (.type "tuple")=some false)
(e333:subIn K (.type "str") (.type "bool")=some false)
(e334:subIn K (.type "str") (.type "tuple")=some false)
(e335:subIn K (.type "NoneType") (.type "bool")=some false)
(e336:subIn K (.type "NoneType") (.type "tuple")=some false)
(e337:subIn K (.type "list") (.type "bool")=some false)
(e338:subIn K (.type "list") (.type "tuple")=some false)
(e339:nsIn K mainGlobals "len"=some none)
(e340:nsIn K mainGlobals "range"=some none)
(e341:nsIn K mainGlobals "sorted"=some none)
(e342:nsIn K mainGlobals "min"=some none)
(e343:nsIn K mainGlobals "max"=some none)
(e344:nsIn K mainGlobals "sum"=some none)
(e345:nsIn K mainGlobals "isinstance"=some none)
(e346:nsIn K mainGlobals "int"=some none)
(e347:nsIn K mainGlobals "bool"=some none)
(e348:nsIn K mainGlobals "tuple"=some none)
(e349:nsIn K mainGlobals "list"=some none)
(e350:nsIn K mainGlobals "ValueError"=some none)
(e351:nsIn K mainGlobals "enumerate"=some none)
(e352:nsIn K mainGlobals "FEWEST_SLOTS"=some (some (.int (2) t_FEWEST_SLOTS)))
(e353:nsIn K mainGlobals "MOST_SLOTS"=some (some (.int (64) t_MOST_SLOTS)))
(e354:nsIn K mainGlobals "FEWEST_LEVELS"=some (some (.int (1) t_FEWEST_LEVELS)))
(e355:nsIn K mainGlobals "MOST_LEVELS"=some (some (.int (6) t_MOST_LEVELS)))
  :∃a:Ad,Txt K mg a:=
 ⟨⟨f0,_,f1,_,f2,_,f3,_,f4,_,f5,_,f6,_,f7,_,f8,_,f9,_,f10,_,f11,_,f12,_,f13,_,f14,_,f15,_,f16,_,f17,_,f18,_,f19,_,f20,_,f21,_,f22,_,f23,_,f24,_,f25,_,f26,_,f27,_,f28,_,f29,_,f30,_,f31,_,f32,_,f33,_,f34,_,f35,_,f36,_,f37,_,f38,_,f39,_,f40,_,f41,_,f42,_,f43,_,f44,_,f45,_,f46,_,f47,_,f48,_,f49,_,f50,_,f51,_,f52,_,f53,_,f54,_,f55,_,f56,_,f57,_,C_Wheels,C_Row,C_Rack,C_Book,C_TickError,C_BadWheels,C_Past,C_NotThere,t_FEWEST_SLOTS,t_MOST_SLOTS,t_FEWEST_LEVELS,t_MOST_LEVELS⟩,⟨mg_of X G e1,⟨e2,e3,e4,e5⟩,e6,e7,mg_of X G e8,⟨e9,e10,e11,e12⟩,e13,e14,e15,mg_of X G e16,⟨e17,e18,e19,e20⟩,e21,e22,mg_of X G e23,⟨e24,e25,e26,e27⟩,e28,e29,e30,e31,e32,e33,e34,mg_of X G e35,⟨e37,Xq e36,e38⟩,mg_of X G e39,e40,mg_of X G e43,e44,⟨e47,e48,e49,e45,e46,Xq e45⟩,VP rfl e51,mg_of X G e52,e53,⟨e56,e57,e58,e54,e55,Xq e54⟩,VP rfl e60,TK,e62,TL e42 (Xq e41) e63 e61,TL e59 (Xq e54) e64 e61,TK,e66,TL e42 (Xq e41) e67 e65,TL e50 (Xq e45) e68 e65,mg_of X G e69,Zj e70 e71 e72,e72,((Zj (st:=YA) e70 e71 e72).binds λ_ _ _ _ _ _=>bq2 λ_ _=>rfl),mg_of X G e73,Zj e74 e75 e76,e76,((Zj (st:=Xc) e74 e75 e76).binds λ_ _ _ _ _ _=>bq2 λ_ _=>rfl),Zj e79 e80 e81,((Zj (st:=Yc) e79 e80 e81).binds λ_ _ _ _ _ _=>bq3 λ_ _ _=>rfl),⟨e82,e77,e78,e83⟩,Zj e86 e87 e88,((Zj (st:=YB) e86 e87 e88).binds λ_ _ _ _ _ _=>bq3 λ_ _ _=>rfl),⟨e84,e85,e88⟩,mg_of X G e89,Zj e90 e91 e92,e92,((Zj (st:=XR) e90 e91 e92).binds λ_ _ _ _ _ _=>bq2 λ_ _=>rfl),Zj e95 e96 e97,((Zj (st:=YC) e95 e96 e97).binds λ_ _ _ _ _ _=>bq2 λ_ _=>rfl),⟨e98,e93,e94,e99⟩,Zj e102 e103 e104,((Zj (st:=Vr) e102 e103 e104).binds λ_ _ _ _ _ _=>bq3 λ_ _ _=>rfl),⟨e100,e101,e104⟩,Zj e107 e108 e109,((Zj (st:=XW) e107 e108 e109).binds λ_ _ _ _ _ _=>bq3 λ_ _ _=>rfl),⟨e105,e106,e109⟩,Zj e112 e113 e114,((Zj (st:=Yr) e112 e113 e114).binds λ_ _ _ _ _ _=>bq2 λ_ _=>rfl),⟨e110,e111,e114⟩,Zj e117 e118 e119,((Zj (st:=Yk) e117 e118 e119).binds λ_ _ _ _ _ _=>bq2 λ_ _=>rfl),⟨e115,e116,e119⟩,Zj e122 e123 e124,((Zj (st:=Ys) e122 e123 e124).binds λ_ _ _ _ _ _=>bq3 λ_ _ _=>rfl),⟨e125,e120,e121,e126⟩,Zj e129 e130 e131,((Zj (st:=YW) e129 e130 e131).binds λ_ _ _ _ _ _=>bq3 λ_ _ _=>rfl),⟨e127,e128,e131⟩,Zj e134 e135 e136,((Zj (st:=XX) e134 e135 e136).binds λ_ _ _ _ _ _=>bq4 λ_ _ _ _=>rfl),⟨e132,e133,e136⟩,Zj e139 e140 e141,((Zj (st:=XC) e139 e140 e141).binds λ_ _ _ _ _ _=>bq4 λ_ _ _ _=>rfl),⟨e137,e138,e141⟩,Zj e144 e145 e146,((Zj (st:=Yl) e144 e145 e146).binds λ_ _ _ _ _ _=>bq1 λ_=>rfl),⟨e142,e143,e146⟩,Zj e149 e150 e151,((Zj (st:=ZY) e149 e150 e151).binds λ_ _ _ _ _ _=>bq1 λ_=>rfl),⟨e147,e148,e151⟩,Zj e154 e155 e156,((Zj (st:=ZQ) e154 e155 e156).binds λ_ _ _ _ _ _=>bq1 λ_=>rfl),⟨e152,e153,e156⟩,Zj e159 e160 e161,((Zj (st:=Yd) e159 e160 e161).binds λ_ _ _ _ _ _=>bq1 λ_=>rfl),⟨e157,e158,e161⟩,Zj e164 e165 e166,((Zj (st:=Yt) e164 e165 e166).binds λ_ _ _ _ _ _=>bq3 λ_ _ _=>rfl),⟨e167,e162,e163,e168⟩,Zj e171 e172 e173,((Zj (st:=XD) e171 e172 e173).binds λ_ _ _ _ _ _=>bq1 λ_=>rfl),⟨e169,e170,e173⟩,Zj e176 e177 e178,((Zj (st:=YD) e176 e177 e178).binds λ_ _ _ _ _ _=>bq1 λ_=>rfl),⟨e174,e175,e178⟩,Zj e181 e182 e183,((Zj (st:=YF) e181 e182 e183).binds λ_ _ _ _ _ _=>bq1 λ_=>rfl),⟨e179,e180,e183⟩,Zj e186 e187 e188,((Zj (st:=XY) e186 e187 e188).binds λ_ _ _ _ _ _=>bq2 λ_ _=>rfl),⟨e184,e185,e188⟩,Zj e191 e192 e193,((Zj (st:=XE) e191 e192 e193).binds λ_ _ _ _ _ _=>bq2 λ_ _=>rfl),⟨e189,e190,e193⟩,Zj e196 e197 e198,((Zj (st:=YE) e196 e197 e198).binds λ_ _ _ _ _ _=>bq1 λ_=>rfl),⟨e194,e195,e198⟩,mg_of X G e199,Zj e200 e201 e202,e202,((Zj (st:=Xe) e200 e201 e202).binds λ_ _ _ _ _ _=>bq2 λ_ _=>rfl),mg_of X G e203,Zj e204 e205 e206,e206,((Zj (st:=Xf) e204 e205 e206).binds λ_ _ _ _ _ _=>bq1 λ_=>rfl),mg_of X G e207,Zj e208 e209 e210,e210,((Zj (st:=Yq) e208 e209 e210).binds λ_ _ _ _ _ _=>bq1 λ_=>rfl),mg_of X G e211,Zj e212 e213 e214,e214,((Zj (st:=Yp) e212 e213 e214).binds λ_ _ _ _ _ _=>bq3 λ_ _ _=>rfl),mg_of X G e215,Zj e216 e217 e218,e218,((Zj (st:=Yz) e216 e217 e218).binds λ_ _ _ _ _ _=>bq2 λ_ _=>rfl),mg_of X G e219,Zj e220 e221 e222,e222,((Zj (st:=VR) e220 e221 e222).binds λ_ _ _ _ _ _=>bq2 λ_ _=>rfl),mg_of X G e223,Zj e224 e225 e226,e226,((Zj (st:=Xt) e224 e225 e226).binds λ_ _ _ _ _ _=>bq4 λ_ _ _ _=>rfl),mg_of X G e227,Zj e228 e229 e230,e230,((Zj (st:=Xs) e228 e229 e230).binds λ_ _ _ _ _ _=>bq2 λ_ _=>rfl),mg_of X G e231,Zj e232 e233 e234,e234,((Zj (st:=Sj) e232 e233 e234).binds λ_ _ _ _ _ _=>bq3 λ_ _ _=>rfl),mg_of X G e235,Zj e236 e237 e238,e238,((Zj (st:=Si) e236 e237 e238).binds λ_ _ _ _ _ _=>bq2 λ_ _=>rfl),mg_of X G e239,Zj e240 e241 e242,e242,((Zj (st:=UN) e240 e241 e242).binds λ_ _ _ _ _ _=>bq2 λ_ _=>rfl),mg_of X G e243,Zj e244 e245 e246,e246,((Zj (st:=Sh) e244 e245 e246).binds λ_ _ _ _ _ _=>bq2 λ_ _=>rfl),mg_of X G e247,Zj e248 e249 e250,e250,((Zj (st:=Vo) e248 e249 e250).binds λ_ _ _ _ _ _=>bq2 λ_ _=>rfl),mg_of X G e251,Zj e252 e253 e254,e254,((Zj (st:=Xd) e252 e253 e254).binds λ_ _ _ _ _ _=>bq2 λ_ _=>rfl),mg_of X G e255,Zj e256 e257 e258,e258,((Zj (st:=YU) e256 e257 e258).binds λ_ _ _ _ _ _=>bq3 λ_ _ _=>rfl),mg_of X G e259,Zj e260 e261 e262,e262,((Zj (st:=UO) e260 e261 e262).binds λ_ _ _ _ _ _=>bq2 λ_ _=>rfl),mg_of X G e263,Zj e264 e265 e266,e266,((Zj (st:=XA) e264 e265 e266).binds λ_ _ _ _ _ _=>bq2 λ_ _=>rfl),mg_of X G e267,Zj e268 e269 e270,e270,((Zj (st:=XV) e268 e269 e270).binds λ_ _ _ _ _ _=>bq2 λ_ _=>rfl),mg_of X G e271,Zj e272 e273 e274,e274,((Zj (st:=XU) e272 e273 e274).binds λ_ _ _ _ _ _=>bq2 λ_ _=>rfl),mg_of X G e275,Zj e276 e277 e278,e278,((Zj (st:=XT) e276 e277 e278).binds λ_ _ _ _ _ _=>bq4 λ_ _ _ _=>rfl),mg_of X G e279,Zj e280 e281 e282,e282,((Zj (st:=Xx) e280 e281 e282).binds λ_ _ _ _ _ _=>bq3 λ_ _ _=>rfl),mg_of X G e283,Zj e284 e285 e286,e286,((Zj (st:=XB) e284 e285 e286).binds λ_ _ _ _ _ _=>bq2 λ_ _=>rfl),mg_of X G e287,Zj e288 e289 e290,e290,((Zj (st:=Xv) e288 e289 e290).binds λ_ _ _ _ _ _=>bq2 λ_ _=>rfl),mg_of X G e291,Zj e292 e293 e294,e294,((Zj (st:=Vp) e292 e293 e294).binds λ_ _ _ _ _ _=>bq2 λ_ _=>rfl),mg_of X G e295,Zj e296 e297 e298,e298,((Zj (st:=Xw) e296 e297 e298).binds λ_ _ _ _ _ _=>bq2 λ_ _=>rfl),mg_of X G e299,Zj e300 e301 e302,e302,((Zj (st:=YV) e300 e301 e302).binds λ_ _ _ _ _ _=>bq2 λ_ _=>rfl),mg_of X G e303,Zj e304 e305 e306,e306,((Zj (st:=Xg) e304 e305 e306).binds λ_ _ _ _ _ _=>bq3 λ_ _ _=>rfl),mg_of X G e307,Zj e308 e309 e310,e310,((Zj (st:=Xz) e308 e309 e310).binds λ_ _ _ _ _ _=>bq3 λ_ _ _=>rfl),mg_of X G e311,Zj e312 e313 e314,e314,((Zj (st:=Xy) e312 e313 e314).binds λ_ _ _ _ _ _=>bq2 λ_ _=>rfl),mg_of X G e315,Zj e316 e317 e318,e318,((Zj (st:=Xh) e316 e317 e318).binds λ_ _ _ _ _ _=>bq2 λ_ _=>rfl),mg_of X G e319,Zj e320 e321 e322,e322,((Zj (st:=Vq) e320 e321 e322).binds λ_ _ _ _ _ _=>bq2 λ_ _=>rfl),mg_of X G e323,Zj e324 e325 e326,e326,((Zj (st:=Xu) e324 e325 e326).binds λ_ _ _ _ _ _=>bq2 λ_ _=>rfl),mg_of X G e327,Zj e328 e329 e330,VP rfl e331,VP rfl e332,VP rfl e333,VP rfl e334,VP rfl e335,VP rfl e336,VP rfl e337,VP rfl e338,mg_none_of X G e339,mg_none_of X G e340,mg_none_of X G e341,mg_none_of X G e342,mg_none_of X G e343,mg_none_of X G e344,mg_none_of X G e345,mg_none_of X G e346,mg_none_of X G e347,mg_none_of X G e348,mg_none_of X G e349,mg_none_of X G e350,mg_none_of X G e351,mg_of X G e352,mg_of X G e353,mg_of X G e354,mg_of X G e355⟩⟩
end Tk
end
section
namespace Tk
open PySem L2 Mir Rk Tb
open PyProof.Rows (boot_sorted boot_min boot_enumerate boot_isinstance boot_sum boot_max)
variable {P:Program}{w:World}{K:W.Frag}{mg:Str->Option Value}{base:Heap}{a:Ad}
abbrev clOf(a:Ad):Cl:=⟨a.C_Row,a.C_Rack,a.C_Wheels,a.C_Book⟩
def spPos(K:W.Frag):Sp:=λvs H Q _=>∃(l:Addr) (v:Int) (ns:List Int),vs=[.ref l,.int v]/\H l=some (.lst (ns.map V.int))/\ns.Pairwise (·<·)/\ns.length<=1000/\Q (.int (pos ns v)) H
theorem sc_position:FnScope ["rising","value","low","high","middle"] ["rising","value"] (Zd XR):=Zu
theorem SA(T:Txt K mg a):FnOk P w K mg base (CXe P w) 1 a.f_position a.fd_position ["rising","value"] (spPos K):=by
 refine T.F_position.okN sc_position (λvs H Q E h=>?_) (λcdv A outer s H vs Q E hr h=>?_)
 ·obtain⟨l,v,ns,rfl,_⟩:=h;rfl
 ·obtain⟨l,v,ns,rfl,hl,hs,hz,k⟩:=h;refine⟨_,(Zh (Zw (i:=2) sc_position.nd rfl (Or.inl rfl) Zg)
   (Zh (Zw (i:=3) sc_position.nd rfl (Or.inl rfl) (ZF Vm rfl T.b_len boot_len (Za (pv 0) Ze)))
   (Zh (Tx PassesOwn.never (Zq Sz (pv 2) (pv 3) (Zz _)) (Zh (Zw (i:=4) sc_position.nd rfl (Or.inl rfl) (Zp ZI (Zp ZZ (pv 2) (pv 3)) Zg))
   (Zf (ZG (Zq Sz (ZC Ye (pv 0) (pv 4) (λ_ _=>rfl)) (pv 1) (Zz _)) (Zf (Zw (i:=2) sc_position.nd rfl (Or.inl rfl) (Zp ZZ (pv 4) Zg))) (Zf (Zw (i:=3) sc_position.nd rfl (Or.inl rfl) (pv 4)))))))
   (Zf (Zn (pv 2)))))),?_⟩
  refine⟨_,rfl,l,_,rfl,.inl (SqL.of hl),?_⟩;refine⟨λm σ H1=>∃(lo hi:Nat) (x:Option V),σ=[some (.ref l),some (.int v),some (.int lo),some (.int hi),x]/\H1=H/\lo<=pos ns v/\pos ns v<=hi/\hi<=ns.length/\m=hi-lo,⟨_,0,ns.length,none,?_,rfl,Nat.zero_le _,pos_le _ _,Nat.le_refl _,rfl⟩,?_⟩
  ·rw[List.length_map];rfl
  ·rintro m σ H1 ⟨lo,hi,x,rfl,rfl,h1,h2,h3,rfl⟩;refine⟨_,rfl,_,rfl,_,_,rfl,rfl,_,rfl,?_⟩;refine ite2 (λc=>?_) (λc=>?_)
   ·have c':lo<hi:=by have:=of_decide_eq_true c;omega
    have hm:((lo:Int)+hi)/2=(((lo+hi)/2:Nat):Int):=by omega
    obtain⟨x0,hx⟩:∃x0,ns[(lo+hi)/2]?=some x0:=⟨ns[(lo+hi)/2]'(by omega),by simp⟩;have hp:=VT (v:=v) hs _ _ hx;refine⟨λσ' H'=>∃(lo' hi':Nat) (x':Option V),σ'=[some (.ref l),some (.int v),some (.int lo'),some (.int hi'),x']/\H'=H1/\lo'<=pos ns v/\pos ns v<=hi'/\hi'<=ns.length/\hi'-lo'<hi-lo,λσ' H' ⟨lo',hi',x',e1,e2,e3,e4,e5,e6⟩=>⟨_,e6,lo',hi',x',e1,e2,e3,e4,e5,rfl⟩,?_⟩;refine⟨_,rfl,_,rfl,_,_,rfl,rfl,_,_,rfl,rfl,⟨by decide,by decide⟩,?_⟩;refine⟨_,rfl,_,rfl,l,ns.map V.int,_,.int x0,rfl,rfl,SqL.of hl,?_,?_⟩
    ·show atI (ns.map V.int) (((lo:Int)+hi)/2)=_;rw[hm];exact atI_nat (by rw[List.getElem?_map,hx];rfl)
    ·refine⟨_,rfl,_,_,rfl,rfl,_,rfl,?_⟩;refine ite2 (λd=>?_) (λd=>?_)
     ·have d':x0<v:=of_decide_eq_true d;refine⟨_,rfl,_,_,rfl,rfl,(lo+hi)/2+1,hi,some (.int (((lo:Int)+hi)/2)),?_,rfl,by have:=hp.mp d';omega,h2,h3,by omega⟩;show [some (V.ref l),some (V.int v),some (V.int (((lo:Int)+hi)/2+1)),some (V.int hi),_]=_;rw[hm];rfl
     ·have d': ¬x0<v:=λz=>d (decide_eq_true z);refine⟨_,rfl,lo,(lo+hi)/2,some (.int (((lo:Int)+hi)/2)),?_,rfl,h1,by have:=mt hp.mpr d';omega,by omega,by omega⟩;show [some (V.ref l),some (V.int v),some (V.int lo),some (V.int (((lo:Int)+hi)/2)),some (V.int (((lo:Int)+hi)/2))]=_;rw[hm]
   ·have c': ¬lo<hi:=λz=>c (decide_eq_true (by omega));have e:lo=pos ns v:=by omega
    refine⟨_,rfl,?_⟩;rw[e];exact k
structure Sm(r:RowS):Prop where
 sp:r.span<2 ^ 200
 ri:r.rising.length<=100
 fi:r.filled.length<=100
 ns:∀s ns,get r.filled s=some ns->ns.length<64
def Ql(c:Cl):Sp:=λvs H Q _=>∃(p dx:Addr) (sp:Int),vs=[.ref p,.int sp]/\H p=some (.ins c.Row dx [])/\∀(df lr:Addr) (H':Hp),H df=none->H lr=none->df≠lr->
 H' p=some (.ins c.Row dx (rowF sp df lr))->H' df=some (.dK [])->H' lr=some (.lst [])->(∀b o,H b=some o->b≠p->H' b=some o)->Q .non H'
theorem sc_Row_init:FnScope ["self","span"] ["self","span"] (Zd YC):=Zu
theorem ok_Row_init(T:Txt K mg a):FnOk P w K mg base (CXe P w) 1 a.f_Row___init__ a.fd_Row___init__ ["self","span"] (Ql (clOf a)):=by
 refine T.F_Row___init__.okN sc_Row_init (λvs H Q E h=>?_) (λcdv A outer s H vs Q E hr h=>?_)
 ·obtain⟨p,dx,sp,rfl,_⟩:=h;rfl
 ·obtain⟨p,dx,sp,rfl,hp,k⟩:=h;refine⟨_,(Zh (Xa (pv 0) (pv 1) rfl) (Zh (Xa (pv 0) XI rfl) (Zf (Xa (pv 0) (YN Ze) rfl)))),?_⟩;refine⟨_,rfl,_,rfl,p,_,dx,[],rfl,hp,T.cl_Row,T.n_Row_span,(by show 0<1000;decide),?_⟩;intro df hdf;have npf:p≠df:=λz=>by rw[←z,Zb] at hdf;cases hdf
  have hdf0:H df=none:=by rw[Zc npf.symm] at hdf;exact hdf
  refine⟨_,rfl,p,_,dx,_,rfl,(by rw[Zc npf];exact Zb),T.cl_Row,T.n_Row_filled,(by show 1<1000;decide),?_⟩;refine⟨(by show 0<=sizeLine;decide),λlr hlr=>?_⟩;have npl:p≠lr:=λz=>by rw[←z,Zb] at hlr;cases hlr
  have nfl:df≠lr:=λz=>by rw[←z,Zc npf.symm,Zb] at hlr;cases hlr
  have hlr0:H lr=none:=by rw[Zc npl.symm,Zc nfl.symm,Zc npl.symm] at hlr;exact hlr
  refine⟨_,rfl,p,_,dx,_,rfl,(by rw[Zc npl];exact Zb),T.cl_Row,T.n_Row_rising,(by show 2<1000;decide),?_⟩;refine k df lr _ hdf0 hlr0 nfl Zb ?_ ?_ λb o e hb=>?_
  ·rw[Zc npf.symm,Zc nfl,Zc npf.symm,Zb]
  ·rw[Zc npl.symm,Zb]
  ·have n1:b≠lr:=Zt e hlr0;have n2:b≠df:=Zt e hdf0;rw[Zc hb,Zc n1,Zc hb,Zc n2,Zc hb];exact e
def spRowPut(c:Cl):Sp:=λvs H Q _=>∃(A:Adr) (sl:Sl) (H0:Hp) (B:BkS) (i:Nat) (r:RowS) (g:Int->Option Int) (n t:Int),vs=[.ref (A.ad (.row i)),.int n,.int t]/\Bk c A sl H0 H B/\B.rows[i]?=some r/\RowOK r g/\Sm r/\
 ∀H' sl',Bk c A sl' H0 H' (ZS B i (Tg r n (t/r.span)))->Q .non H'
theorem sc_Row_put:FnScope ["self","number","tick","slot"] ["self","number","tick"] (Zd Vr):=Zu
theorem Vd{n:Nat}(h:n<=100):n<sizeLine:=Nat.lt_of_le_of_lt h (by decide)
theorem map_ins(l:List Int)(i:Nat)(v:Int):(l.map V.int).take i++V.int v::(l.map V.int).drop i=(TQ l i v).map V.int:=by
 unfold TQ;rw[List.map_append,List.map_cons,List.map_take,List.map_drop]
theorem ok_Row_put(T:Txt K mg a):FnOk P w K mg base (CXe P w) 2 a.f_Row_put a.fd_Row_put ["self","number","tick"] (spRowPut (clOf a)):=by
 have G_position:=SA (P:=P) (w:=w) (base:=base) T;refine T.F_Row_put.okN sc_Row_put (λvs H Q E h=>?_) (λcdv A' outer s H vs Q E hr h=>?_)
 ·obtain⟨A,sl,H0,B,i,r,g,n,t,rfl,_⟩:=h;rfl
 ·obtain⟨A,sl,H0,B,i,r,g,n,t,rfl,b,hi,R,sm,k⟩:=h;have hu:=YK hr;refine⟨_,(Zh (Zw (i:=3) sc_Row_put.nd rfl (Or.inl rfl) (Zp ZI (pv 2) (Zx (pv 0) rfl)))
   (Zh (ZG (Ug (Vt hu (pv 3) (Zx (pv 0) rfl))) (Zh (YM hu (Zx (pv 0) rfl) (pv 3) XI rfl)
   (Zf (ZH (VW F.plainAttrs_list F.slot_list_insert F.type_list_insert mt_insert (Zx (pv 0) rfl) (Za (ZA G_position (hr.mono (by decide)) rfl T.f_position T.kp_position T.B_position .nil ZB (Za (Zx (pv 0) rfl) (Za (pv 3) Ze))) (Za (pv 3) Ze)))))) Zv)
   (Zf (YM hu (Zr hu (Zx (pv 0) rfl) (pv 3) (λ_ _=>rfl)) (pv 1) VI rfl)))),?_⟩
  refine⟨_,rfl,_,rfl,_,_,_,_,_,rfl,b.row hi,T.cl_Row,T.n_Row_span,rfl,_,_,rfl,rfl,⟨R.sp,sm.sp⟩,?_⟩;refine⟨_,rfl,_,rfl,_,_,_,_,_,rfl,b.row hi,T.cl_Row,T.n_Row_filled,rfl,_,_,rfl,DGet.k (k:=Sum.inl (t/r.span)) (b.filled hi),_,rfl,?_⟩;rw[UV];cases e:get r.filled (t/r.span) with
  |none=>
   refine iteT ?_;intro d hd;have bt:=b.temp (o:=.dK []) hd;refine⟨_,rfl,_,_,_,_,_,rfl,bt.row hi,T.cl_Row,T.n_Row_filled,rfl,_,rfl,_,_,rfl,DPut.k (k:=Sum.inl (t/r.span)) (bt.filled hi) (by unfold Yn;rw[YJ];exact Vd sm.fi),?_⟩;have b1:=b.newSlot hi e hd;have hi1:(ZS B i {r with filled:=put r.filled (t/r.span) []}).rows[i]?=some {r with filled:=put r.filled (t/r.span) []}:=Vu hi;have hR1:=b1.rising hi1;dsimp only at hR1;refine⟨_,rfl,_,_,_,_,_,rfl,b1.row hi1,T.cl_Row,T.n_Row_rising,rfl,.inl ⟨rfl,_,SqL.of hR1⟩,?_⟩;refine⟨_,rfl,_,_,_,_,_,rfl,b1.row hi1,T.cl_Row,T.n_Row_rising,rfl,_,rfl,_,_,r.rising,rfl,hR1,R.srt,(by have:=sm.ri;omega),?_⟩;refine⟨_,rfl,_,_,_,_,rfl,rfl,hR1,(by omega),(by rw[List.length_map];have:=pos_le r.rising (t/r.span);omega),(by rw[List.length_map];exact Vd sm.ri),?_⟩;have b2:=b1.wRising hi1 (TQ r.rising (pos r.rising (t/r.span)) (t/r.span));rw[Vb] at b2;rw[show ((pos r.rising (t/r.span):Nat):Int).toNat=pos r.rising (t/r.span) from rfl,map_ins];have eS:Yg r (t/r.span)=⟨r.span,put r.filled (t/r.span) [],TQ r.rising (pos r.rising (t/r.span)) (t/r.span)⟩:=by unfold Yg;rw[e];rfl
   have b2':=b2;dsimp only at b2';rw[←eS] at b2';have hi2:(ZS B i (Yg r (t/r.span))).rows[i]?=some (Yg r (t/r.span)):=Vu hi;have hg:get (Yg r (t/r.span)).filled (t/r.span)=some []:=by rw[Tf,if_pos rfl,e];rfl
   have hlen:(Yg r (t/r.span)).filled.length<=101:=by
    rw[eS];show (put r.filled (t/r.span) []).length<=101;have:(keys (put r.filled (t/r.span) [])).length=(keys r.filled++[t/r.span]).length:=by rw[Ul _ e]
    have f1:=sm.fi;simp[keys] at this;omega
   refine⟨_,rfl,_,_,_,_,_,rfl,b2'.row hi2,T.cl_Row,T.n_Row_filled,rfl,_,rfl,_,_,rfl,b2'.getF hi2 hg,_,rfl,_,_,rfl,b2'.putS (n:=n) hi2 hg (by decide),?_⟩;have b3:=b2'.wSlot hi2 hg (putN [] n);rw[Vb] at b3;refine k _ (XO sl i (t/r.span) d) ?_;unfold Tg;rw[hg];exact b3
  |some ns=>
   refine iteF ?_;have eS:Yg r (t/r.span)=r:=by unfold Yg;rw[e];rfl
   refine⟨_,rfl,_,_,_,_,_,rfl,b.row hi,T.cl_Row,T.n_Row_filled,rfl,_,rfl,_,_,rfl,b.getF hi e,_,rfl,_,_,rfl,b.putS (n:=n) hi e (Vd (by have:=sm.ns _ _ e;omega)),?_⟩;have b3:=b.wSlot hi e (putN ns n);refine k _ sl ?_;unfold Tg;rw[eS,e];exact b3
theorem Qz{α β:Type}(f:α->β):∀(l:List α) (i:Nat),(l.map f).eraseIdx i=(l.eraseIdx i).map f
 |[],_=>rfl
 |_::_,0=>rfl
 |a::r,i+1=>by simp[Qz f r i]
theorem seqIx{k n:Nat}(h:k<n):seqIndex? (k:Int) n=some k:=by
 unfold seqIndex?;simp;omega
def spTakeSlot(c:Cl):Sp:=λvs H Q _=>∃(A:Adr) (sl:Sl) (H0:Hp) (B:BkS) (i:Nat) (r:RowS) (s:Int) (ns:List Int),vs=[.ref (A.ad (.row i)),.int s]/\Bk c A sl H0 H B/\B.rows[i]?=some r/\r.rising.Pairwise (·<·)/\s∈r.rising/\get r.filled s=some ns/\ns.Nodup/\Sm r/\
 ∀(H':Hp) (l:Addr) (out:List Int),H0 l=none->Bk c A sl (upd H0 l (.lst (out.map V.int))) H' (ZS B i (VD r s))->out.Pairwise (·<·)->(∀x,x∈out↔x∈ns)->Q (.ref l) H'
theorem Sg:FnScope ["self","slot"] ["self","slot"] (Zd Yr):=Zu
theorem RH(ns:List Int):numV ns=(ns.map λn=>(n,V.bl true)).map λp=>(Sum.inl p.1,p.2):=by
 unfold numV;rw[List.map_map];rfl
theorem VY(T:Txt K mg a):FnOk P w K mg base (CXe P w) 2 a.f_Row_take_slot a.fd_Row_take_slot ["self","slot"] (spTakeSlot (clOf a)):=by
 have G_position:=SA (P:=P) (w:=w) (base:=base) T;refine T.F_Row_take_slot.okN Sg (λvs H Q E h=>?_) (λcdv A' outer s H vs Q E hr h=>?_)
 ·obtain⟨A,sl,H0,B,i,r,x,ns,rfl,_⟩:=h;rfl
 ·obtain⟨A,sl,H0,B,i,r,x,ns,rfl,b,hi,hs,hx,hg,hn,sm,k⟩:=h;have hu:=YK hr;refine⟨_,(Zh (ZH (VW F.plainAttrs_list F.slot_list_pop F.type_list_pop mt_popAt (Zx (pv 0) rfl) (Za (ZA G_position (hr.mono (by decide)) rfl T.f_position T.kp_position T.B_position .nil ZB (Za (Zx (pv 0) rfl) (Za (pv 1) Ze))) Ze)))
   (Zf (Zn (ZF (Xj rfl) rfl T.b_sorted boot_sorted (Za (YT (Zx (pv 0) rfl) (pv 1) ⟨rfl,rfl,rfl,rfl⟩) Ze))))),?_⟩
  have hR:=b.rising hi;refine⟨_,rfl,_,_,_,_,_,rfl,b.row hi,T.cl_Row,T.n_Row_rising,rfl,.inl ⟨rfl,_,SqL.of hR⟩,?_⟩;refine⟨_,rfl,_,_,_,_,_,rfl,b.row hi,T.cl_Row,T.n_Row_rising,rfl,_,rfl,_,_,r.rising,rfl,hR,hs,(by have:=sm.ri;omega),?_⟩;have hp:=at_pos hs hx;have hpl:pos r.rising x<r.rising.length:=(List.getElem?_eq_some_iff.mp hp).1;have hri:=sm.ri;refine⟨_,_,_,pos r.rising x,.int x,rfl,rfl,hR,(by omega),(by omega),seqIx (by rw[List.length_map];exact hpl),(by rw[List.getElem?_map,hp];rfl),?_⟩;have b1:=b.wRising hi (r.rising.eraseIdx (pos r.rising x));have hi1:(ZS B i {r with rising:=r.rising.eraseIdx (pos r.rising x)}).rows[i]?=some {r with rising:=r.rising.eraseIdx (pos r.rising x)}:=Vu hi;rw[←Qz] at b1;have b2:=b1.dropSlot hi1 x;rw[Vb] at b2;have hF1:=b1.filled hi1;have hS1:=b1.slot hi1 hg;have hne:sl i x≠A.ad (.filled i):=λz=>by
   have:=b1.inj (.slot i x) (.filled i) _ _ (UW hi1 hg) (VM hi1) z;cases this
  refine⟨_,rfl,_,_,_,_,_,rfl,b1.row hi1,T.cl_Row,T.n_Row_filled,rfl,_,rfl,.inl ⟨_,.inl hF1⟩,_,rfl,_,Sum.inl x,.ref (sl i x),hF1,rfl,(by rw[UV];show (get r.filled x).map _=_;rw[hg];rfl),?_⟩;refine⟨_,ns.map λn=>(n,V.bl true),rfl,(by rw[Zc hne,←RH];exact hS1),(by rw[List.length_map];exact sm.ns _ _ hg),λout hperm hsort l hl=>?_⟩;have e2:(ns.map λn=>(n,V.bl true)).map (·.1)=ns:=by rw[List.map_map];exact List.map_id _
  rw[e2] at hperm;obtain⟨h1,h2⟩:=Vc hperm hsort hn;exact k _ l out (b2.same.free hl) (b2.out (.inl hl)) h1 h2
def spNumbersIn(c:Cl):Sp:=λvs H Q _=>∃(A:Adr) (sl:Sl) (H0:Hp) (B:BkS) (i:Nat) (r:RowS) (s:Int),vs=[.ref (A.ad (.row i)),.int s]/\Bk c A sl H0 H B/\B.rows[i]?=some r/\(∀ns,get r.filled s=some ns->ns.Nodup)/\Sm r/\
 ∀(H':Hp) (l:Addr) (out:List Int),H0 l=none->Bk c A sl (upd H0 l (.lst (out.map V.int))) H' B->out.Pairwise (·<·)->(∀x,x∈out↔∃ns,get r.filled s=some ns/\x∈ns)->Q (.ref l) H'
theorem Tu:FnScope ["self","slot"] ["self","slot"] (Zd Yk):=Zu
theorem TC(T:Txt K mg a):FnOk P w K mg base (CXe P w) 1 a.f_Row_numbers_in a.fd_Row_numbers_in ["self","slot"] (spNumbersIn (clOf a)):=by
 refine T.F_Row_numbers_in.okN Tu (λvs H Q E h=>?_) (λcdv A' outer s H vs Q E hr h=>?_)
 ·obtain⟨A,sl,H0,B,i,r,x,rfl,_⟩:=h;rfl
 ·obtain⟨A,sl,H0,B,i,r,x,rfl,b,hi,hn,sm,k⟩:=h;have hu:=YK hr;refine⟨_,(Zf (Zn (ZF (Xj rfl) rfl T.b_sorted boot_sorted (Za (pe_dget2 hu (Zx (pv 0) rfl) (pv 1) XI ⟨rfl,rfl,rfl,rfl⟩) Ze)))),?_⟩;refine⟨_,rfl,_,_,_,_,_,rfl,b.row hi,T.cl_Row,T.n_Row_filled,rfl,_,rfl,.inl ⟨_,.inl (b.filled hi)⟩,_,rfl,λd hd=>?_⟩;have b1:=b.temp (o:=.dK []) hd;refine⟨_,DGet.k (k:=Sum.inl x) (b1.filled hi),?_⟩;rw[UV];cases e:get r.filled x with
  |none=>
   refine⟨d,[],rfl,Zb,(by decide),λout hperm hsort l hl=>?_⟩;have e2:out=[]:=by simpa using hperm
   subst e2;exact k _ l [] (b1.same.free hl) (b1.out (.inl hl)) List.Pairwise.nil λy=>⟨λz=>by simp at z,λ⟨ns,z,_⟩=>by rw[e] at z;cases z⟩
  |some ns=>
   refine⟨_,ns.map λn=>(n,V.bl true),rfl,(by rw[←RH];exact b1.slot hi e),(by rw[List.length_map];exact sm.ns _ _ e),λout hperm hsort l hl=>?_⟩;have e2:(ns.map λn=>(n,V.bl true)).map (·.1)=ns:=by rw[List.map_map];exact List.map_id _
   rw[e2] at hperm;obtain⟨h1,h2⟩:=Vc hperm hsort (hn ns e);exact k _ l out (b1.same.free hl) (b1.out (.inl hl)) h1 λy=>by
    rw[h2 y];exact⟨λz=>⟨ns,e,z⟩,λ⟨ms,z1,z2⟩=>by rw[e] at z1;cases z1;exact z2⟩
noncomputable def YG(S now due:Int):Nat->List Int->Option (Int×Int)
 |_,[]=>none
 |lvl,sp::r=>if now/(sp * S)=due/(sp * S) then some (lvl,due % (sp * S)/sp) else YG S now due (lvl+1) r
noncomputable def ZJ(S:Int)(n:Nat):List Int:=(List.range n).map λi=>S ^ i
def spPlace(c:Cl):Sp:=λvs H Q _=>∃(wh tp dx:Addr) (S now due:Int) (sps:List Int),vs=[.ref wh,.int now,.int due]/\H wh=some (.ins c.Wheels dx (Xm S tp))/\H tp=some (.tup (sps.map V.int))/\0<S/\S<2 ^ 64/\(∀x∈sps,0<x/\x<2 ^ 100)/\sps.length<=100/\
 (YG S now due 0 sps=none->∀H',Same H H'->Q .non H')/\∀lvl slt,YG S now due 0 sps=some (lvl,slt)->∀H' p,Same H H'->H p=none->H' p=some (.tup [.int lvl,.int slt])->Q (.ref p) H'
theorem sc_Wheels_place:FnScope ["self","now","due","level","span","whole"] ["self","now","due"] (Zd YB):=Zu
theorem RC{S now due:Int}{sps:List Int}{i:Nat}{x:Int}(h:sps[i]?=some x):YG S now due i (sps.drop i)=if now/(x * S)=due/(x * S) then some ((i:Int),due % (x * S)/x) else YG S now due (i+1) (sps.drop (i+1)):=by
 have hi:i<sps.length:=(List.getElem?_eq_some_iff.mp h).1;have e:sps.drop i=x::sps.drop (i+1):=by
  rw[List.drop_eq_getElem_cons hi];congr 1
  exact(List.getElem?_eq_some_iff.mp h).2
 rw[e];rfl
theorem SS(T:Txt K mg a):FnOk P w K mg base (CXe P w) 1 a.f_Wheels_place a.fd_Wheels_place ["self","now","due"] (spPlace (clOf a)):=by
 refine T.F_Wheels_place.okN sc_Wheels_place (λvs H Q E h=>?_) (λcdv A' outer s H vs Q E hr h=>?_)
 ·obtain⟨wh,tp,dx,S,now,due,sps,rfl,_⟩:=h;rfl
 ·obtain⟨wh,tp,dx,S,now,due,sps,rfl,hw,ht,hS,hS2,hx,hl,k0,k1⟩:=h;have hu:=YK hr;refine⟨_,(Zh (Vx PassesOwn.never rfl (pi_enumT rfl T.b_enumerate (Za (Zx (pv 0) rfl) Ze)) (Pg rfl (XH (Yi (i:=3) sc_Wheels_place.nd rfl (Or.inl rfl)) (XH (Yi (i:=4) sc_Wheels_place.nd rfl (Or.inl rfl)) SX)))
    (Zh (Zw (i:=5) sc_Wheels_place.nd rfl (Or.inl rfl) (Zp Vh (pv 4) (Zx (pv 0) rfl)))
    (Zf (ZG (Zq XF (Zp ZI (pv 1) (pv 5)) (Zp ZI (pv 2) (pv 5)) (Zz _)) (Zf (Zn (Yv (Za (pv 3) (Za (Zp ZI (Zp ZT (pv 2) (pv 5)) (pv 4)) Ze))))) Zv))))
   (Zf (Zn ZK))),?_⟩
  refine⟨_,rfl,_,_,_,_,_,rfl,hw,T.cl_Wheels,T.n_Wheels_spans,rfl,_,rfl,⟨_,SqT.of ht⟩,?_⟩;refine for_enumT (K:=K) (a:=tp) (xs:=sps.map V.int) (λi σ H2=>∃(x y z:Option V),σ=[some (.ref wh),some (.int now),some (.int due),x,y,z]/\Same H H2/\YG S now due 0 sps=YG S now due i (sps.drop i)) ⟨_,_,_,rfl,Same.refl _,rfl⟩
   (λi σ H2 _ ⟨_,_,_,_,s2,_⟩=>SqT.of (s2 _ _ ht)) ?_ ?_
  ·rintro i v σ H2 p hv ⟨x,y,z,rfl,s2,hp⟩ hfree;obtain⟨sp,hsp,rfl⟩:∃sp,sps[i]?=some sp/\v=V.int sp:=by
    rw[List.getElem?_map] at hv;cases e:sps[i]? with
    |none=>rw[e] at hv;cases hv
    |some sp=>rw[e] at hv;exact⟨sp,rfl,(Option.some.inj hv).symm⟩
   obtain⟨p1,p2⟩:=hx sp (List.mem_of_getElem? hsp);have s3:Same H (upd H2 p (.tup [.int (i:Int),.int sp])):=s2.trans (Same.upd hfree);have m1:0<sp * S:=Int.mul_pos p1 hS;have m2:sp * S<2 ^ 200:=by
    have:sp * S<=2 ^ 100 * 2 ^ 64:=Int.mul_le_mul (Int.le_of_lt p2) (Int.le_of_lt hS2) (Int.le_of_lt hS) (by decide);have:(2:Int) ^ 100 * 2 ^ 64<2 ^ 200:=by decide
    omega
   have p3:sp<2 ^ 200:=Int.lt_trans p2 (by decide);refine⟨p,[.int (i:Int),.int sp],rfl,SqT.of Zb,rfl,_,_,rfl,_,_,rfl,rfl,?_⟩;refine⟨_,rfl,_,rfl,_,_,_,_,_,rfl,s3 _ _ hw,T.cl_Wheels,T.n_Wheels_slots,rfl,_,_,rfl,rfl,.inr ⟨by omega,hS2⟩,?_⟩;refine⟨_,rfl,_,rfl,_,_,rfl,rfl,⟨m1,m2⟩,_,rfl,_,rfl,_,_,rfl,rfl,⟨m1,m2⟩,rfl,_,rfl,?_⟩;have key:=RC (S:=S) (now:=now) (due:=due) hsp;rw[←hp] at key;refine ite2 (λc=>?_) (λc=>?_)
   ·have c':now/(sp * S)=due/(sp * S):=by have:=of_decide_eq_true c;injection this
    rw[if_pos c'] at key;refine⟨_,rfl,_,rfl,_,rfl,_,_,rfl,rfl,m1,_,rfl,_,_,rfl,rfl,⟨p1,p3⟩,(by show 2<=sizeLine;decide),λq hq=>?_⟩;exact k1 _ _ key _ q (s3.trans (Same.upd hq)) (s3.free hq) Zb
   ·have c': ¬now/(sp * S)=due/(sp * S):=λz=>c (decide_eq_true (congrArg V.int z));rw[if_neg c'] at key;exact⟨_,_,_,rfl,s3,key⟩
  ·rintro σ H2 ⟨x,y,z,rfl,s2,hp⟩;refine k0 ?_ H2 s2;rw[hp,List.length_map,List.drop_length];rfl
end Tk
end
section
namespace Tb
open PySem L2 Mir Rk
theorem Bk.up{c:Cl}{A:Adr}{sl:Sl}{H0 H H':Hp}{B:BkS}(b:Bk c A sl H0 H B)(s:Same H H'):Bk c A sl H0 H' B:=⟨b.same.trans s,b.free,λl o h=>s _ _ (b.here l o h),b.inj⟩
end Tb
namespace Tk
open PySem L2 Mir Rk Tb
open PyProof.Rows (boot_sorted boot_min boot_enumerate boot_isinstance)
structure Geo(S:Int)(n:Nat)(B:BkS):Prop where
 lo:2<=S
 hi:S<=64
 n1:1<=n
 n6:n<=6
 slots:B.slots=S
 spans:B.spans=ZJ S n
 len:B.rows.length=n+1
theorem Rp(S now due:Int):∀(n i:Nat),YG S now due i ((List.range n).map λj=>S ^ (i+j))=
  if levFrom S now due n i<i+n then some ((levFrom S now due n i:Int),due % S ^ (levFrom S now due n i+1)/S ^ levFrom S now due n i) else none
 |0,i=>by simp[YG,levFrom]
 |n+1,i=>by
  have e:(List.range (n+1)).map (λj=>S ^ (i+j))=S ^ i::(List.range n).map λj=>S ^ (i+1+j):=by
   rw[List.range_succ_eq_map,List.map_cons,List.map_map];congr 1
   apply List.map_congr_left
   intro j _;show S ^ (i+(j+1))=_;congr 1
   omega
  have p:S ^ i * S=S ^ (i+1):=(Int.pow_succ S i).symm;rw[e,YG,p,Rp S now due n (i+1),levFrom];by_cases h:now/S ^ (i+1)=due/S ^ (i+1)
  ·rw[if_pos h,if_pos h,if_pos (by omega)]
  ·rw[if_neg h,if_neg h,show i+1+n=i+(n+1) by omega]
theorem place_spans(S now due:Int)(n:Nat):YG S now due 0 (ZJ S n)=if lv S n now due<n then some ((lv S n now due:Int),due % S ^ (lv S n now due+1)/S ^ lv S n now due) else none:=by
 have:=Rp S now due n 0;rw[Nat.zero_add] at this;rw[show ZJ S n=(List.range n).map λj=>S ^ (0+j) from by unfold ZJ;congr 1;funext j;rw[Nat.zero_add]];exact this
theorem pow_le64{S:Int}(h1:0<=S)(h2:S<=64):∀i:Nat,0<=S ^ i/\S ^ i<=64 ^ i
 |0=>by simp
 |i+1=>by
  obtain⟨a,b⟩:=pow_le64 h1 h2 i;rw[Int.pow_succ,Int.pow_succ];exact⟨Int.mul_nonneg a h1,Int.mul_le_mul b h2 h1 (Int.le_trans a b)⟩
theorem pow_64{i:Nat}(h:i<=7):(64:Int) ^ i<=64 ^ 7:=(by decide:∀i:Fin 8,(64:Int) ^ (i:Nat)<=64 ^ 7) ⟨i,by omega⟩
theorem Vs{S:Int}(h1:2<=S)(h2:S<=64){i:Nat}(hi:i<=7):0<S ^ i/\S ^ i<=64 ^ 7:=by
 refine⟨Int.pow_pos (by omega),?_⟩;exact Int.le_trans (pow_le64 (by omega) h2 i).2 (pow_64 hi)
section
variable {S:Int}{n:Nat}{now:Int}{rows:List RowS}{f:Int->Option Int}{B:BkS}
theorem Geo.pow(G:Geo S n B){i:Nat}(hi:i<=7):0<S ^ i/\S ^ i<=64 ^ 7:=Vs G.lo G.hi hi
theorem Geo.span(G:Geo S n B){x:Int}(h:x∈B.spans):0<x/\x<2 ^ 100:=by
 rw[G.spans] at h;obtain⟨i,hi,rfl⟩:=List.mem_map.mp h;have hn:=G.n6;have:=List.mem_range.mp hi;obtain⟨a,b⟩:=G.pow (i:=i) (by omega);exact⟨a,Int.lt_of_le_of_lt b (by decide)⟩
theorem RackOK.sm(R:RackOK S n now rows f)(h64:S<=64)(h6:n<=6){i:Nat}{r:RowS}(h:rows[i]?=some r):Sm r:=by
 have hl:=(List.getElem?_eq_some_iff.mp h).1;have:=R.len;obtain⟨a,b⟩:=Vs R.hS h64 (i:=i) (by omega);obtain⟨c1,c2,c3⟩:=row_small (R.row i r h) (N:=63) λk t e=>R.dom k t (fil_some.mp e).1;refine⟨?_,by omega,by omega,λs ns e=>by have:=c3 s ns e;omega⟩;rw[R.span i r h];exact Int.lt_of_le_of_lt b (by decide)
end
section
variable {P:Program}{w:World}{K:W.Frag}{mg:Str->Option Value}{base:Heap}{a:Ad}
def spRowOf(c:Cl):Sp:=λvs H Q _=>∃(A:Adr) (sl:Sl) (H0:Hp) (B:BkS) (S:Int) (n:Nat) (now t:Int),vs=[.ref (A.ad .rack),.int now,.int t]/\Bk c A sl H0 H B/\Geo S n B/\∀H',Same H H'->Q (.ref (A.ad (.row (lv S n now t)))) H'
theorem sc_Rack_row_of:FnScope ["self","now","tick","place"] ["self","now","tick"] (Zd YW):=Zu
theorem rows_at{c:Cl}{A:Adr}{sl:Sl}{H0 H:Hp}{B:BkS}(b:Bk c A sl H0 H B){i:Nat}(h:i<B.rows.length):atI ((List.range B.rows.length).map λi=>V.ref (A.ad (.row i))) (i:Int)=some (V.ref (A.ad (.row i))):=by
 refine atI_nat ?_;rw[List.getElem?_map,List.getElem?_range h];rfl
theorem Uw(T:Txt K mg a):FnOk P w K mg base (CXe P w) 2 a.f_Rack_row_of a.fd_Rack_row_of ["self","now","tick"] (spRowOf (clOf a)):=by
 have G_Wheels_place:=SS (P:=P) (w:=w) (base:=base) T;refine T.F_Rack_row_of.okN sc_Rack_row_of (λvs H Q E h=>?_) (λcdv A' outer s H vs Q E hr h=>?_)
 ·obtain⟨A,sl,H0,B,S,n,now,t,rfl,_⟩:=h;rfl
 ·obtain⟨A,sl,H0,B,S,n,now,t,rfl,b,G,k⟩:=h;refine⟨_,(Zh (Zw (i:=3) sc_Rack_row_of.nd rfl (Or.inl rfl) (Yx (Zx (pv 0) rfl) T.cl_Wheels T.m_Wheels_place G_Wheels_place (hr.mono (by decide)) T.B_Wheels_place .nil ZB (Za (pv 1) (Za (pv 2) Ze))))
   (Zh (ZG (Zq XJ (pv 3) ZK (Zz _)) (Zf (Zn (ZC Ye (Zx (pv 0) rfl) (Zp Vy (ZF Vm rfl T.b_len boot_len (Za (Zx (pv 0) rfl) Ze)) Zg) (λ_ _=>rfl)))) Zv)
   (Zf (Zn (ZC Ye (Zx (pv 0) rfl) (ZC ZE (pv 3) Zg (λ_ _=>rfl)) (λ_ _=>rfl)))))),?_⟩
  refine⟨_,rfl,_,_,_,_,_,rfl,b.rack,T.cl_Rack,T.n_Rack_wheels,rfl,_,_,_,rfl,b.wheels,rfl,_,rfl,_,rfl,?_⟩;have hpl:=place_spans S now t n;have hln:=G.len;refine⟨_,_,_,S,now,t,B.spans,rfl,(by rw[←G.slots];exact b.wheels),b.spans,(by have:=G.lo;omega),(by have:=G.hi;omega),λx hx=>G.span hx,(by rw[G.spans];unfold ZJ;rw[List.length_map,List.length_range];have:=G.n6;omega),λh H1 s1=>?_,λlvl slt h H1 p s1 hp0 hp=>?_⟩
  ·rw[G.spans,hpl] at h;have hlt: ¬lv S n now t<n:=λz=>by rw[if_pos z] at h;cases h
   have heq:lv S n now t=n:=by have:=SD S n now t;omega
   have b1:=b.up s1;refine⟨_,rfl,rfl,_,rfl,iteT ?_⟩;refine⟨_,rfl,_,_,_,_,_,rfl,b1.rack,T.cl_Rack,T.n_Rack_rows,rfl,_,rfl,_,_,_,_,_,rfl,b1.rack,T.cl_Rack,T.n_Rack_rows,rfl,_,_,rfl,.inl (SqL.of b1.rows),_,_,rfl,rfl,_,_,_,_,rfl,rfl,SqL.of b1.rows,?_,k H1 s1⟩;rw[List.length_map,List.length_range,show ((B.rows.length:Int)-1)=((lv S n now t:Nat):Int) by omega];exact rows_at b1 (by omega)
  ·rw[G.spans,hpl] at h;have hlt:lv S n now t<n:=Nat.lt_of_not_le λz=>by rw[if_neg (by omega)] at h;cases h
   rw[if_pos hlt] at h;have b1:=b.up s1;refine⟨_,rfl,rfl,_,rfl,iteF ?_⟩;refine⟨_,rfl,_,_,_,_,_,rfl,b1.rack,T.cl_Rack,T.n_Rack_rows,rfl,_,rfl,_,_,_,.int lvl,rfl,rfl,SqT.of hp,rfl,_,_,_,_,rfl,rfl,SqL.of b1.rows,?_,k H1 s1⟩;injection h with h
   injection h with h1 h2
   rw[←h1];exact rows_at b1 (by omega)
def spRackPut(c:Cl):Sp:=λvs H Q _=>∃(A:Adr) (sl:Sl) (H0:Hp) (B:BkS) (S:Int) (n:Nat) (now k t:Int) (f:Int->Option Int),vs=[.ref (A.ad .rack),.int now,.int k,.int t]/\Bk c A sl H0 H B/\Geo S n B/\RackOK S n now B.rows f/\f k=none/\now<t/\0<=k/\k<63/\
 ∀(H':Hp) (sl':Sl) (rows':List RowS),Bk c A sl' H0 H' {B with rows:=rows'}->rows'.length=B.rows.length->RackOK S n now rows' (gput f k (some t))->Q .non H'
theorem sc_Rack_put:FnScope ["self","now","number","tick"] ["self","now","number","tick"] (Zd XX):=Zu
theorem ok_Rack_put(T:Txt K mg a):FnOk P w K mg base (CXe P w) 3 a.f_Rack_put a.fd_Rack_put ["self","now","number","tick"] (spRackPut (clOf a)):=by
 have G_Rack_row_of:=Uw (P:=P) (w:=w) (base:=base) T;have G_Row_put:=ok_Row_put (P:=P) (w:=w) (base:=base) T;refine T.F_Rack_put.okN sc_Rack_put (λvs H Q E h=>?_) (λcdv A' outer s H vs Q E hr h=>?_)
 ·obtain⟨A,sl,H0,B,S,n,now,k,t,f,rfl,_⟩:=h;rfl
 ·obtain⟨A,sl,H0,B,S,n,now,k,t,f,rfl,b,G,R,hk,ht,hd1,hd2,kk⟩:=h;refine⟨_,(Zf (ZH (Yx (Yx (pv 0) T.cl_Rack T.m_Rack_row_of G_Rack_row_of (hr.mono (by decide)) T.B_Rack_row_of .nil ZB (Za (pv 1) (Za (pv 3) Ze))) T.cl_Row T.m_Row_put G_Row_put (hr.mono (by decide)) T.B_Row_put .nil ZB (Za (pv 2) (Za (pv 3) Ze))))),?_⟩;refine⟨_,rfl,_,_,_,rfl,b.rack,rfl,_,rfl,_,rfl,A,sl,H0,B,S,n,now,t,rfl,b,G,λH1 s1=>?_⟩;have b1:=b.up s1;obtain⟨r,hi⟩:=R.at (SD S n now t);refine⟨_,_,_,rfl,b1.row hi,rfl,_,rfl,_,rfl,A,sl,H0,B,_,r,_,k,t,rfl,b1,hi,R.row _ _ hi,RackOK.sm R G.hi G.n6 hi,λH2 sl2 b2=>?_⟩;exact kk H2 sl2 _ b2 (List.length_set ..) (R.put hk ht ⟨hd1,hd2⟩ hi)
end
end Tk
end
section
namespace Tk
open PySem L2 Mir Rk Tb
open PyProof.Rows (boot_sorted boot_min boot_enumerate boot_isinstance boot_sum boot_max)
variable {P:Program}{w:World}{K:W.Frag}{mg:Str->Option Value}{base:Heap}{a:Ad}
structure IsMin(S:Int)(n:Nat)(now:Int)(f:Int->Option Int)(m:Int):Prop where
 one:∃k t,f k=some t/\st S n now t=m
 least:∀k t,f k=some t->m<=st S n now t
theorem IsMin.uniq{S:Int}{n:Nat}{now:Int}{f:Int->Option Int}{m m':Int}(h:IsMin S n now f m)(h':IsMin S n now f m'):m=m':=by
 obtain⟨k,t,e,z⟩:=h.one;obtain⟨k',t',e',z'⟩:=h'.one;have:=h.least k' t' e';have:=h'.least k t e;omega
theorem First.isMin{S:Int}{n:Nat}{now:Int}{f:Int->Option Int}{L:Nat}{s:Int}(h:First S n now f L s):IsMin S n now f (s * S ^ L):=by
 obtain⟨k,t,e,l,d⟩:=h.one;exact⟨⟨k,t,e,by unfold st;rw[l,d]⟩,h.least⟩
def spFirstRow(c:Cl):Sp:=λvs H Q _=>∃(A:Adr) (sl:Sl) (H0:Hp) (B:BkS),vs=[.ref (A.ad .rack)]/\Bk c A sl H0 H B/\((∀(i:Nat) r,B.rows[i]?=some r->r.rising=[])->Q .non H)/\
 ∀(L:Nat) r x,B.rows[L]?=some r->r.rising[0]?=some x->(∀(i:Nat) r',i<L->B.rows[i]?=some r'->r'.rising=[])->Q (.ref (A.ad (.row L))) H
theorem sc_Rack_first_row:FnScope ["self","row"] ["self"] (Zd Yl):=Zu
theorem XL(T:Txt K mg a):FnOk P w K mg base (CXe P w) 1 a.f_Rack_first_row a.fd_Rack_first_row ["self"] (spFirstRow (clOf a)):=by
 refine T.F_Rack_first_row.okN sc_Rack_first_row (λvs H Q E h=>?_) (λcdv A' outer s H vs Q E hr h=>?_)
 ·obtain⟨A,sl,H0,B,rfl,_⟩:=h;rfl
 ·obtain⟨A,sl,H0,B,rfl,b,k0,k1⟩:=h;refine⟨_,(Zh (Vx PassesOwn.never rfl (Ty (Zx (pv 0) rfl)) (Yi (i:=1) sc_Rack_first_row.nd rfl (Or.inl rfl)) (Zf (ZG (Zq op_gt (ZF Vm rfl T.b_len boot_len (Za (Zx (pv 1) rfl) Ze)) Zg (Zz _)) (Zf (Zn (pv 1))) Zv)))
   (Zf (Zn ZK))),?_⟩
  refine⟨_,rfl,_,_,_,_,_,rfl,b.rack,T.cl_Rack,T.n_Rack_rows,rfl,_,rfl,⟨_,SqL.of b.rows⟩,?_⟩;refine RO (K:=K) (a:=A.ad .rows) (xs:=(List.range B.rows.length).map λi=>V.ref (A.ad (.row i))) (λi σ H2=>∃x,σ=[some (.ref (A.ad .rack)),x]/\H2=H/\∀(j:Nat) r,j<i->B.rows[j]?=some r->r.rising=[])
   ⟨_,rfl,rfl,λj r z=>by omega⟩ (λi σ H2 _ ⟨_,_,e,_⟩=>by rw[e];exact SqL.of b.rows) ?_ ?_
  ·rintro i v σ H2 hv ⟨x,rfl,rfl,hlow⟩;have hil:i<B.rows.length:=by have:=(List.getElem?_eq_some_iff.mp hv).1;simpa using this
   have ev:v=V.ref (A.ad (.row i)):=by
    rw[List.getElem?_map,List.getElem?_range hil] at hv;exact(Option.some.inj hv).symm
   subst ev;obtain⟨r,hi⟩:∃r,B.rows[i]?=some r:=⟨B.rows[i],by simp[hil]⟩;refine⟨_,rfl,_,_,_,_,_,rfl,b.row hi,T.cl_Row,T.n_Row_rising,rfl,_,_,rfl,.inl (SqL.of (b.rising hi)),_,_,rfl,rfl,_,rfl,?_⟩;rw[List.length_map];refine ite2 (λc=>?_) (λc=>?_)
   ·have c':0<r.rising.length:=by have:=of_decide_eq_true c;omega
    exact⟨_,rfl,k1 i r r.rising[0] hi (by simp[c']) λj r' hj e=>hlow j r' hj e⟩
   ·have c0: ¬(0:Int)<(r.rising.length:Int):=λz=>c (decide_eq_true z);have c':r.rising=[]:=List.length_eq_zero_iff.mp (by omega);refine⟨_,rfl,rfl,λj r' hj e=>?_⟩;by_cases ej:j=i
    ·subst ej;rw[hi] at e;cases e;exact c'
    ·exact hlow j r' (by omega) e
  ·rintro σ H2 ⟨x,rfl,rfl,hlow⟩;refine k0 λi r e=>hlow i r ?_ e;rw[List.length_map,List.length_range];exact(List.getElem?_eq_some_iff.mp e).1
def QT(c:Cl):Sp:=λvs H Q _=>∃(A:Adr) (sl:Sl) (H0:Hp) (B:BkS) (S:Int) (n:Nat) (now:Int) (f:Int->Option Int),vs=[.ref (A.ad .rack)]/\Bk c A sl H0 H B/\Geo S n B/\RackOK S n now B.rows f/\((∀k,f k=none)->Q .non H)/\∀m,IsMin S n now f m->Q (.int m) H
theorem sc_Rack_first_start:FnScope ["self","row"] ["self"] (Zd ZY):=Zu
theorem UX(T:Txt K mg a):FnOk P w K mg base (CXe P w) 2 a.f_Rack_first_start a.fd_Rack_first_start ["self"] (QT (clOf a)):=by
 have G_Rack_first_row:=XL (P:=P) (w:=w) (base:=base) T;refine T.F_Rack_first_start.okN sc_Rack_first_start (λvs H Q E h=>?_) (λcdv A' outer s H vs Q E hr h=>?_)
 ·obtain⟨A,sl,H0,B,S,n,now,f,rfl,_⟩:=h;rfl
 ·obtain⟨A,sl,H0,B,S,n,now,f,rfl,b,G,R,k0,k1⟩:=h;refine⟨_,(Zh (Zw (i:=1) sc_Rack_first_start.nd rfl (Or.inl rfl) (Yu (pv 0) T.cl_Rack T.m_Rack_first_row G_Rack_first_row (hr.mono (by decide)) T.B_Rack_first_row .nil ZB))
   (Zh (ZG (Zq XJ (pv 1) ZK (Zz _)) (Zf (Zn ZK)) Zv)
   (Zf (Zn (Zp Vh (ZC Ye (Zx (pv 1) rfl) Zg (λ_ _=>rfl)) (Zx (pv 1) rfl)))))),?_⟩
  refine⟨_,rfl,_,_,_,rfl,b.rack,rfl,A,sl,H0,B,rfl,b,λh=>?_,λL r x hi hx low=>?_⟩
  ·refine⟨_,rfl,rfl,_,rfl,iteT ?_⟩;exact k0 (R.none_first h)
  ·have hln:=(List.getElem?_eq_some_iff.mp hi).1;have hsp:=R.span L r hi;obtain⟨p1,p2⟩:=G.pow (i:=L) (by have:=R.len;have:=G.n6;omega);refine⟨_,rfl,rfl,_,rfl,iteF ?_⟩;refine⟨_,rfl,_,_,_,_,_,rfl,b.row hi,T.cl_Row,T.n_Row_rising,rfl,_,_,_,.int x,rfl,rfl,SqL.of (b.rising hi),(by rw[show (0:Int)=((0:Nat):Int) from rfl];exact atI_nat (by rw[List.getElem?_map,hx];rfl)),?_⟩;refine⟨_,rfl,_,_,_,_,_,rfl,b.row hi,T.cl_Row,T.n_Row_span,rfl,_,_,rfl,rfl,.inr ⟨by rw[hsp];omega,by rw[hsp];exact Int.lt_of_le_of_lt p2 (by decide)⟩,?_⟩;rw[hsp];exact k1 _ (First.isMin (R.first hi hx low))
def Rr(c:Cl):Sp:=λvs H Q _=>∃(A:Adr) (sl:Sl) (H0:Hp) (B:BkS) (S:Int) (n:Nat) (now:Int) (f:Int->Option Int),vs=[.ref (A.ad .rack)]/\Bk c A sl H0 H B/\Geo S n B/\RackOK S n now B.rows f/\
 ∀(H':Hp) (l:Addr) (out:List Int),H0 l=none->Bk c A sl (upd H0 l (.lst (out.map V.int))) H' B->out.Pairwise (·<·)->(∀x,x∈out↔∃t,f x=some t/\IsMin S n now f (st S n now t))->(out=[]->∀k,f k=none)->Q (.ref l) H'
theorem sc_Rack_first_numbers:FnScope ["self","row"] ["self"] (Zd ZQ):=Zu
theorem QE{S:Int}{n:Nat}{now:Int}{rows:List RowS}{f:Int->Option Int}(R:RackOK S n now rows f){L:Nat}{r:RowS}{s:Int}(hi:rows[L]?=some r)(F:First S n now f L s)(x:Int):
  (∃ns,get r.filled s=some ns/\x∈ns)↔∃t,f x=some t/\st S n now t=s * S ^ L:=by
 rw[(R.row L r hi).has x s,R.span L r hi];constructor
 ·rintro⟨t,h1,h2⟩;obtain⟨a,b⟩:=fil_some.mp h1;exact⟨t,a,(F.just x t a).mpr ⟨b,h2⟩⟩
 ·rintro⟨t,h1,h2⟩;obtain⟨a,b⟩:=(F.just x t h1).mp h2;exact⟨t,fil_some.mpr ⟨h1,a⟩,b⟩
theorem Uq(T:Txt K mg a):FnOk P w K mg base (CXe P w) 2 a.f_Rack_first_numbers a.fd_Rack_first_numbers ["self"] (Rr (clOf a)):=by
 have G_Rack_first_row:=XL (P:=P) (w:=w) (base:=base) T;have G_Row_numbers_in:=TC (P:=P) (w:=w) (base:=base) T;refine T.F_Rack_first_numbers.okN sc_Rack_first_numbers (λvs H Q E h=>?_) (λcdv A' outer s H vs Q E hr h=>?_)
 ·obtain⟨A,sl,H0,B,S,n,now,f,rfl,_⟩:=h;rfl
 ·obtain⟨A,sl,H0,B,S,n,now,f,rfl,b,G,R,k⟩:=h;refine⟨_,(Zh (Zw (i:=1) sc_Rack_first_numbers.nd rfl (Or.inl rfl) (Yu (pv 0) T.cl_Rack T.m_Rack_first_row G_Rack_first_row (hr.mono (by decide)) T.B_Rack_first_row .nil ZB))
   (Zh (ZG (Zq XJ (pv 1) ZK (Zz _)) (Zf (Zn (YN Ze))) Zv)
   (Zf (Zn (Yx (pv 1) T.cl_Row T.m_Row_numbers_in G_Row_numbers_in (hr.mono (by decide)) T.B_Row_numbers_in .nil ZB (Za (ZC Ye (Zx (pv 1) rfl) Zg (λ_ _=>rfl)) Ze)))))),?_⟩
  refine⟨_,rfl,_,_,_,rfl,b.rack,rfl,A,sl,H0,B,rfl,b,λh=>?_,λL r x hi hx low=>?_⟩
  ·refine⟨_,rfl,rfl,_,rfl,iteT ?_⟩;refine⟨(by decide),λl hl=>?_⟩;have no:=R.none_first h;exact k _ l [] (b.same.free hl) (b.out (.inl hl)) List.Pairwise.nil (λy=>⟨λz=>by simp at z,λ⟨t,z,_⟩=>by rw[no y] at z;cases z⟩) λ_=>no
  ·have F:=R.first hi hx low;refine⟨_,rfl,rfl,_,rfl,iteF ?_⟩;refine⟨_,rfl,_,_,_,rfl,b.row hi,rfl,_,rfl,_,_,_,_,_,rfl,b.row hi,T.cl_Row,T.n_Row_rising,rfl,_,_,_,.int x,rfl,rfl,SqL.of (b.rising hi),(by rw[show (0:Int)=((0:Nat):Int) from rfl];exact atI_nat (by rw[List.getElem?_map,hx];rfl)),?_⟩;refine⟨A,sl,H0,B,L,r,x,rfl,b,hi,λns e=>(R.row L r hi).nd _ _ e,RackOK.sm R G.hi G.n6 hi,λH1 l out hl b1 hs hm=>?_⟩;have hm2:∀y,y∈out↔∃t,f y=some t/\st S n now t=x * S ^ L:=λy=>by rw[hm y,QE R hi F y]
   refine k H1 l out hl b1 hs (λy=>?_) λe=>by
    obtain⟨k1,t1,h1,h2,h3⟩:=F.one;have:=(hm2 k1).mpr ⟨t1,h1,(F.just k1 t1 h1).mpr ⟨h2,h3⟩⟩;rw[e] at this;cases this
   rw[hm2 y];constructor
   ·rintro⟨t,h1,h2⟩;exact⟨t,h1,by rw[h2];exact First.isMin F⟩
   ·rintro⟨t,h1,h2⟩;exact⟨t,h1,h2.uniq (First.isMin F)⟩
def spTakeFirst(c:Cl):Sp:=λvs H Q _=>∃(A:Adr) (sl:Sl) (H0:Hp) (B:BkS) (S:Int) (n:Nat) (now:Int) (f:Int->Option Int) (m:Int),vs=[.ref (A.ad .rack)]/\Bk c A sl H0 H B/\Geo S n B/\RackOK S n now B.rows f/\IsMin S n now f m/\
 ∀(H':Hp) (l:Addr) (out:List Int) (rows':List RowS),H0 l=none->Bk c A sl (upd H0 l (.lst (out.map V.int))) H' {B with rows:=rows'}->rows'.length=B.rows.length->RackOK S n now rows' (λk=>(f k).filter λt=> !decide (st S n now t=m))->
  out.Pairwise (·<·)->(∀x,x∈out↔∃t,f x=some t/\st S n now t=m)->Q (.ref l) H'
theorem sc_Rack_take_first:FnScope ["self","row"] ["self"] (Zd Yd):=Zu
theorem Tj(T:Txt K mg a):FnOk P w K mg base (CXe P w) 3 a.f_Rack_take_first a.fd_Rack_take_first ["self"] (spTakeFirst (clOf a)):=by
 have G_Rack_first_row:=XL (P:=P) (w:=w) (base:=base) T;have G_Row_take_slot:=VY (P:=P) (w:=w) (base:=base) T;refine T.F_Rack_take_first.okN sc_Rack_take_first (λvs H Q E h=>?_) (λcdv A' outer s H vs Q E hr h=>?_)
 ·obtain⟨A,sl,H0,B,S,n,now,f,m,rfl,_⟩:=h;rfl
 ·obtain⟨A,sl,H0,B,S,n,now,f,m,rfl,b,G,R,M,k⟩:=h;refine⟨_,(Zh (Zw (i:=1) sc_Rack_take_first.nd rfl (Or.inl rfl) (Yu (pv 0) T.cl_Rack T.m_Rack_first_row G_Rack_first_row (hr.mono (by decide)) T.B_Rack_first_row .nil ZB))
   (Zf (Zn (Yx (pv 1) T.cl_Row T.m_Row_take_slot G_Row_take_slot (hr.mono (by decide)) T.B_Row_take_slot .nil ZB (Za (ZC Ye (Zx (pv 1) rfl) Zg (λ_ _=>rfl)) Ze))))),?_⟩
  refine⟨_,rfl,_,_,_,rfl,b.rack,rfl,A,sl,H0,B,rfl,b,λh=>?_,λL r x hi hx low=>?_⟩
  ·have no:=R.none_first h;obtain⟨k',t',e,_⟩:=M.one;rw[no k'] at e;cases e
  ·have F:=R.first hi hx low;have em:m=x * S ^ L:=M.uniq (First.isMin F);have RR:=R.row L r hi;have hxm:x∈r.rising:=List.mem_of_getElem? hx;obtain⟨ns,hns⟩:=Option.isSome_iff_exists.mp ((RR.mem x).mp hxm);refine⟨_,rfl,_,_,_,rfl,b.row hi,rfl,_,rfl,_,_,_,_,_,rfl,b.row hi,T.cl_Row,T.n_Row_rising,rfl,_,_,_,.int x,rfl,rfl,SqL.of (b.rising hi),(by rw[show (0:Int)=((0:Nat):Int) from rfl];exact atI_nat (by rw[List.getElem?_map,hx];rfl)),?_⟩;refine⟨A,sl,H0,B,L,r,x,ns,rfl,b,hi,RR.srt,hxm,hns,RR.nd _ _ hns,RackOK.sm R G.hi G.n6 hi,λH1 l out hl b1 hs hm=>?_⟩;refine k H1 l out _ hl b1 (List.length_set ..) ((R.out hi hxm).congr λy=>?_) hs λy=>?_
   ·cases e:f y with
    |none=>rfl
    |some t=>
     have:=F.just y t e;rw[←em] at this;simp only[Option.filter,this]
   ·rw[hm y,em];refine Iff.trans ⟨λz=>⟨ns,hns,z⟩,λ⟨ms,z1,z2⟩=>?_⟩ (QE R hi F y);rw[hns] at z1;cases z1;exact z2
end Tk
end
section
namespace Tb
open PySem L2 Mir Rk
section
variable {c:Cl}{A:Adr}{sl:Sl}{H0 H:Hp}{B:BkS}
theorem Bk.putT(b:Bk c A sl H0 H B)(k t:Int)(h:B.ticks.length<=1000):DPut H (A.ad .ticks) (.int k) (.int t) (upd H (A.ad .ticks) (.dK (mapK (λ_ x=>V.int x) (put B.ticks k t)))):=by
 have:=DPut.k (k:=Sum.inl k) (v:=.int t) b.ticks (by rw[YJ];exact UM h);rw[XZ (λ_ x=>V.int x) B.ticks k t] at this;exact this
theorem Bk.putN(b:Bk c A sl H0 H B)(k:Int)(x:Str)(h:B.names.length<=1000):DPut H (A.ad .names) (.int k) (.str x) (upd H (A.ad .names) (.dK (mapK (λ_ x=>V.str x) (put B.names k x)))):=by
 have:=DPut.k (k:=Sum.inl k) (v:=.str x) b.names (by rw[YJ];exact UM h);rw[XZ (λ_ x=>V.str x) B.names k x] at this;exact this
theorem Bk.putSt(b:Bk c A sl H0 H B)(k:Int)(x:Option Int)(h:B.steps.length<=1000):DPut H (A.ad .steps) (.int k) (XG x) (upd H (A.ad .steps) (.dK (mapK (λ_ x=>XG x) (put B.steps k x)))):=by
 have:=DPut.k (k:=Sum.inl k) (v:=XG x) b.steps (by rw[YJ];exact UM h);rw[XZ (λ_ x=>XG x) B.steps k x] at this;exact this
theorem Bk.putKp(b:Bk c A sl H0 H B)(k t:Int)(h:B.kept.length<=1000):DPut H (A.ad .kept) (.int k) (.int t) (upd H (A.ad .kept) (.dK (mapK (λ_ x=>V.int x) (put B.kept k t)))):=by
 have:=DPut.k (k:=Sum.inl k) (v:=.int t) b.kept (by rw[YJ];exact UM h);rw[XZ (λ_ x=>V.int x) B.kept k t] at this;exact this
theorem Bk.getT(b:Bk c A sl H0 H B)(k:Int):DGet H (A.ad .ticks) (.int k) ((get B.ticks k).map V.int):=by
 have:=DGet.k (k:=Sum.inl k) b.ticks;rw[ZX] at this;exact this
theorem Bk.getKp(b:Bk c A sl H0 H B)(k:Int):DGet H (A.ad .kept) (.int k) ((get B.kept k).map V.int):=by
 have:=DGet.k (k:=Sum.inl k) b.kept;rw[ZX] at this;exact this
theorem Bk.getN(b:Bk c A sl H0 H B)(k:Int):DGet H (A.ad .names) (.int k) ((get B.names k).map V.str):=by
 have:=DGet.k (k:=Sum.inl k) b.names;rw[ZX] at this;exact this
theorem Bk.getSt(b:Bk c A sl H0 H B)(k:Int):DGet H (A.ad .steps) (.int k) ((get B.steps k).map XG):=by
 have:=DGet.k (k:=Sum.inl k) b.steps;rw[ZX] at this;exact this
theorem Bk.popT(b:Bk c A sl H0 H B)(k:Int):Bk c A sl H0 (upd H (A.ad .ticks) (.dK (YI (mapK (λ_ x=>V.int x) B.ticks) (Sum.inl k)))) {B with ticks:=drop B.ticks k}:=by rw[Xp];exact b.wTicks _
theorem Bk.popK(b:Bk c A sl H0 H B)(k:Int):Bk c A sl H0 (upd H (A.ad .kept) (.dK (YI (mapK (λ_ x=>V.int x) B.kept) (Sum.inl k)))) {B with kept:=drop B.kept k}:=by rw[Xp];exact b.wKept _
theorem Bk.popN(b:Bk c A sl H0 H B)(k:Int):Bk c A sl H0 (upd H (A.ad .names) (.dK (YI (mapK (λ_ x=>V.str x) B.names) (Sum.inl k)))) {B with names:=drop B.names k}:=by rw[Xp];exact b.wNames _
theorem Bk.popS(b:Bk c A sl H0 H B)(k:Int):Bk c A sl H0 (upd H (A.ad .steps) (.dK (YI (mapK (λ_ x=>XG x) B.steps) (Sum.inl k)))) {B with steps:=drop B.steps k}:=by rw[Xp];exact b.wSteps _
end
end Tb
namespace Tk
open PySem L2 Mir Rk Tb
open PyProof.Rows (boot_sorted boot_min boot_enumerate boot_isinstance)
section
variable {P:Program}{w:World}{K:W.Frag}{mg:Str->Option Value}{base:Heap}{a:Ad}
theorem Geo.up{S:Int}{n:Nat}{B B':BkS}(G:Geo S n B)(h1:B'.slots=B.slots)(h2:B'.spans=B.spans)(h3:B'.rows.length=B.rows.length):Geo S n B':=⟨G.lo,G.hi,G.n1,G.n6,h1.trans G.slots,h2.trans G.spans,h3.trans G.len⟩
def spStart(c:Cl):Sp:=λvs H Q _=>∃(A:Adr) (sl:Sl) (H0:Hp) (B:BkS) (S:Int) (n:Nat) (k t:Int) (f:Int->Option Int),vs=[.ref (A.ad .book),.int k,.int t]/\Bk c A sl H0 H B/\Geo S n B/\RackOK S n B.now B.rows f/\f k=none/\B.now<t/\0<=k/\k<63/\B.ticks.length<=1000/\
 ∀(H':Hp) (sl':Sl) (rows':List RowS),Bk c A sl' H0 H' {B with rows:=rows',ticks:=put B.ticks k t}->rows'.length=B.rows.length->RackOK S n B.now rows' (gput f k (some t))->Q .non H'
theorem Se:FnScope ["book","number","tick"] ["book","number","tick"] (Zd Yp):=Zu
theorem YH(T:Txt K mg a):FnOk P w K mg base (CXe P w) 4 a.f_start_waiting a.fd_start_waiting ["book","number","tick"] (spStart (clOf a)):=by
 have G_Rack_put:=ok_Rack_put (P:=P) (w:=w) (base:=base) T;refine T.F_start_waiting.okN Se (λvs H Q E h=>?_) (λcdv A' outer s H vs Q E hr h=>?_)
 ·obtain⟨A,sl,H0,B,S,n,k,t,f,rfl,_⟩:=h;rfl
 ·obtain⟨A,sl,H0,B,S,n,k,t,f,rfl,b,G,R,hk,ht,hd1,hd2,hl,kk⟩:=h;have hu:=YK hr;refine⟨_,(Zh (YM hu (Zx (pv 0) rfl) (pv 1) (pv 2) rfl)
   (Zf (ZH (Yx (Zx (pv 0) rfl) T.cl_Rack T.m_Rack_put G_Rack_put (hr.mono (by decide)) T.B_Rack_put .nil ZB (Za (Zx (pv 0) rfl) (Za (pv 1) (Za (pv 2) Ze))))))),?_⟩
  refine⟨_,rfl,_,rfl,_,_,_,_,_,rfl,b.book,T.cl_Book,T.n_Book_ticks,rfl,_,rfl,_,_,rfl,b.putT k t hl,?_⟩;have b1:=b.wTicks (put B.ticks k t);refine⟨_,rfl,_,_,_,_,_,rfl,b1.book,T.cl_Book,T.n_Book_rack,rfl,_,_,_,rfl,b1.rack,rfl,_,rfl,_,_,_,_,_,rfl,b1.book,T.cl_Book,T.n_Book_now,rfl,_,rfl,_,rfl,?_⟩;exact⟨A,sl,H0,_,S,n,B.now,k,t,f,rfl,b1,G.up rfl rfl rfl,R,hk,ht,hd1,hd2,λH' sl' rows' b2 e R'=>kk H' sl' rows' b2 e R'⟩
def spForget(c:Cl):Sp:=λvs H Q _=>∃(A:Adr) (sl:Sl) (H0:Hp) (B:BkS) (k:Int) (nm:Str) (sp:Option Int),vs=[.ref (A.ad .book),.int k]/\Bk c A sl H0 H B/\get B.names k=some nm/\get B.steps k=some sp/\∀H',Bk c A sl H0 H' {B with steps:=drop B.steps k,names:=drop B.names k}->Q (.str nm) H'
theorem sc_forget:FnScope ["book","number"] ["book","number"] (Zd VR):=Zu
theorem Qq(T:Txt K mg a):FnOk P w K mg base (CXe P w) 1 a.f_forget a.fd_forget ["book","number"] (spForget (clOf a)):=by
 refine T.F_forget.okN sc_forget (λvs H Q E h=>?_) (λcdv A' outer s H vs Q E hr h=>?_)
 ·obtain⟨A,sl,H0,B,k,nm,sp,rfl,_⟩:=h;rfl
 ·obtain⟨A,sl,H0,B,k,nm,sp,rfl,b,hn,hs,kk⟩:=h;refine⟨_,(Zh (ZH (YT (Zx (pv 0) rfl) (pv 1) ⟨rfl,rfl,rfl,rfl⟩)) (Zf (Zn (YT (Zx (pv 0) rfl) (pv 1) ⟨rfl,rfl,rfl,rfl⟩)))),?_⟩;refine⟨_,rfl,_,_,_,_,_,rfl,b.book,T.cl_Book,T.n_Book_steps,rfl,_,rfl,.inl ⟨_,.inl b.steps⟩,_,rfl,_,Sum.inl k,XG sp,b.steps,rfl,(by rw[ZX,hs];rfl),?_⟩;have b1:=b.popS k;refine⟨_,rfl,_,_,_,_,_,rfl,b1.book,T.cl_Book,T.n_Book_names,rfl,_,rfl,.inl ⟨_,.inl b1.names⟩,_,rfl,_,Sum.inl k,.str nm,b1.names,rfl,(by rw[ZX];show (get B.names k).map _=_;rw[hn];rfl),?_⟩;exact kk _ (b1.popN k)
def Lg(x:Int):Prop:=x.natAbs.log2<1920
def spCheckTick(c:Cl)(Past:Addr):Sp:=λvs H Q E=>∃(A:Adr) (sl:Sl) (H0:Hp) (B:BkS) (due:Int),vs=[.ref (A.ad .book),.int due]/\Bk c A sl H0 H B/\Lg due/\(due<=B.now->E (.ref Past) none H)/\(B.now<due->Q .non H)
theorem Qa:FnScope ["book","due"] ["book","due"] (Zd Xe):=Zu
theorem Ta(T:Txt K mg a):FnOk P w K mg base (CXe P w) 1 a.f_check_tick a.fd_check_tick ["book","due"] (spCheckTick (clOf a) a.C_Past):=by
 refine T.F_check_tick.okE Qa (λvs H Q E h=>?_) (λcdv A' outer s H vs Q E hr h=>?_)
 ·obtain⟨A,sl,H0,B,due,rfl,_⟩:=h;rfl
 ·obtain⟨A,sl,H0,B,due,rfl,b,hl,k0,k1⟩:=h;refine⟨_,(Zf (ZG (Zq Qp (pv 1) (Zx (pv 0) rfl) (Zz _)) (Zf (Ve Sy rfl rfl T.c_Past T.x_Past (Za (VG (YX (Vg (pv 1) (YX Uu)))) Ze))) Zv)),?_⟩;refine⟨_,rfl,_,rfl,_,_,_,_,_,rfl,b.book,T.cl_Book,T.n_Book_now,rfl,_,_,rfl,rfl,_,rfl,?_⟩;refine ite2 (λc=>?_) (λc=>?_)
  ·exact⟨_,rfl,_,rfl,hl,λy=>⟨by show 1<=sizeLine;decide,k0 (of_decide_eq_true c)⟩⟩
  ·exact k1 (by have: ¬due<=B.now:=λz=>c (decide_eq_true z);omega)
def spCheckStep(Past:Addr):Sp:=λvs H Q E=>∃(sp:Option Int),vs=[XG sp]/\(∀s,sp=some s->Lg s)/\(∀s,sp=some s->s<1->E (.ref Past) none H)/\((∀s,sp=some s->1<=s)->Q .non H)
theorem Qb:FnScope ["step"] ["step"] (Zd Xf):=Zu
theorem Qd(T:Txt K mg a):FnOk P w K mg base (CXe P w) 1 a.f_check_step a.fd_check_step ["step"] (spCheckStep a.C_Past):=by
 refine T.F_check_step.okE Qb (λvs H Q E h=>?_) (λcdv A' outer s H vs Q E hr h=>?_)
 ·obtain⟨sp,rfl,_⟩:=h;rfl
 ·obtain⟨sp,rfl,hl,k0,k1⟩:=h;refine⟨_,(Zf (ZG (RA (Zq Ui (pv 0) ZK (Zz _)) (Tw (Zq Sz (pv 0) Zg (Zz _)))).pt (Zf (Ve Sy rfl rfl T.c_Past T.x_Past (Za (VG (YX (Vg (pv 0) (YX Uu)))) Ze))) Zv)),?_⟩;cases sp with
  |none=>
   refine⟨_,rfl,rfl,_,rfl,iteF ?_⟩;exact iteF (k1 λs z=>by cases z)
  |some x=>
   refine⟨_,rfl,rfl,_,rfl,iteT ?_⟩;refine⟨_,rfl,_,_,rfl,rfl,_,rfl,?_⟩;refine ite2 (λc=>?_) (λc=>?_)
   ·exact⟨_,rfl,_,rfl,hl x rfl,λy=>⟨by show 1<=sizeLine;decide,k0 x rfl (of_decide_eq_true c)⟩⟩
   ·exact k1 λs z=>by
     cases z;have: ¬x<1:=λz=>c (decide_eq_true z);omega
def Rt(Past:Addr):Sp:=λvs H Q E=>∃(t:Int),vs=[.int t]/\Lg t/\(t<0->E (.ref Past) none H)/\(0<=t->Q .non H)
theorem Sf:FnScope ["ticks"] ["ticks"] (Zd Yq):=Zu
theorem VX(T:Txt K mg a):FnOk P w K mg base (CXe P w) 1 a.f_check_stretch a.fd_check_stretch ["ticks"] (Rt a.C_Past):=by
 refine T.F_check_stretch.okE Sf (λvs H Q E h=>?_) (λcdv A' outer s H vs Q E hr h=>?_)
 ·obtain⟨t,rfl,_⟩:=h;rfl
 ·obtain⟨t,rfl,hl,k0,k1⟩:=h;refine⟨_,(Zf (ZG (Zq Sz (pv 0) Zg (Zz _)) (Zf (Ve Sy rfl rfl T.c_Past T.x_Past (Za (VG (YX (Vg (pv 0) (YX Uu)))) Ze))) Zv)),?_⟩;refine⟨_,rfl,_,_,rfl,rfl,_,rfl,?_⟩;refine ite2 (λc=>?_) (λc=>?_)
  ·exact⟨_,rfl,_,rfl,hl,λy=>⟨by show 1<=sizeLine;decide,k0 (of_decide_eq_true c)⟩⟩
  ·have: ¬t<0:=λz=>c (decide_eq_true z);exact k1 (by omega)
end
end Tk
end
section
namespace Tk
open PySem L2 Mir Rk Tb
open PyProof.Rows (boot_sorted boot_min boot_enumerate boot_isinstance boot_sum boot_max)
variable {P:Program}{w:World}{K:W.Frag}{mg:Str->Option Value}{base:Heap}{a:Ad}
noncomputable def Xl(r:Int×Int×Str):List V:=[.int r.1,.int r.2.1,.str r.2.2]
theorem gput_same{f:Int->Option Int}{k:Int}(h:f k=none):gput f k none=f:=by
 funext m;unfold gput;by_cases e:m=k
 ·rw[if_pos e,e,h]
 ·rw[if_neg e]
def spRing(c:Cl):Sp:=λvs H Q _=>∃(A:Adr) (sl:Sl) (H0:Hp) (B:BkS) (S:Int) (n:Nat) (k t:Int) (f:Int->Option Int) (nm:Str) (sp:Option Int),vs=[.ref (A.ad .book),.int k]/\Bk c A sl H0 H B/\Geo S n B/\RackOK S n B.now B.rows f/\f k=none/\0<=k/\k<63/\B.ticks.length<=1000/\
 get B.ticks k=some t/\get B.names k=some nm/\get B.steps k=some sp/\(∀s,sp=some s->1<=s)/\
 ∀(H':Hp) (sl':Sl) (rows':List RowS) (p:Addr),H0 p=none->Bk c A sl' (upd H0 p (.tup (Xl (B.now,k,nm)))) H' {ringB B k sp with rows:=rows'}->rows'.length=B.rows.length->RackOK S n B.now rows' (gput f k (sp.map (B.now+·)))->Q (.ref p) H'
theorem sc_ring:FnScope ["book","number","step"] ["book","number"] (Zd Sh):=Zu
theorem ok_ring(T:Txt K mg a):FnOk P w K mg base (CXe P w) 5 a.f_ring a.fd_ring ["book","number"] (spRing (clOf a)):=by
 have G_forget:=Qq (P:=P) (w:=w) (base:=base) T;have G_start_waiting:=YH (P:=P) (w:=w) (base:=base) T;refine T.F_ring.okN sc_ring (λvs H Q E h=>?_) (λcdv A' outer s H vs Q E hr h=>?_)
 ·obtain⟨A,sl,H0,B,S,n,k,t,f,nm,sp,rfl,_⟩:=h;rfl
 ·obtain⟨A,sl,H0,B,S,n,k,t,f,nm,sp,rfl,b,G,R,hk,hd1,hd2,hl,ht,hn,hs,hp,kk⟩:=h;have hu:=YK hr;refine⟨_,(Zh (Zw (i:=2) sc_ring.nd rfl (Or.inl rfl) (Zr hu (Zx (pv 0) rfl) (pv 1) (λ_ _=>rfl)))
   (Zh (ZG (Zq XJ (pv 2) ZK (Zz _)) (Zh (ZH (YT (Zx (pv 0) rfl) (pv 1) ⟨rfl,rfl,rfl,rfl⟩))
   (Zf (Zn (Yv (Za (Zx (pv 0) rfl) (Za (pv 1) (Za (ZA G_forget (hr.mono (by decide)) rfl T.f_forget T.kp_forget T.B_forget .nil ZB (Za (pv 0) (Za (pv 1) Ze))) Ze))))))) Zv)
   (Zh (ZH (ZA G_start_waiting (hr.mono (by decide)) rfl T.f_start_waiting T.kp_start_waiting T.B_start_waiting .nil ZB (Za (pv 0) (Za (pv 1) (Za (Zp ZZ (Zx (pv 0) rfl) (pv 2)) Ze)))))
   (Zf (Zn (Yv (Za (Zx (pv 0) rfl) (Za (pv 1) (Za (Zr hu (Zx (pv 0) rfl) (pv 1) (λ_ _=>rfl)) Ze))))))))),?_⟩
  have g0:=b.getSt k;rw[hs] at g0;refine⟨_,rfl,_,_,_,_,_,rfl,b.book,T.cl_Book,T.n_Book_steps,rfl,_,rfl,_,_,rfl,g0,?_⟩;cases sp with
  |none=>
   refine⟨_,rfl,rfl,_,rfl,iteT ?_⟩;refine⟨_,rfl,_,_,_,_,_,rfl,b.book,T.cl_Book,T.n_Book_ticks,rfl,_,rfl,.inl ⟨_,.inl b.ticks⟩,_,rfl,_,Sum.inl k,.int t,b.ticks,rfl,(by rw[ZX,ht];rfl),?_⟩;have b1:=b.popT k;refine⟨_,rfl,_,_,_,_,_,rfl,b1.book,T.cl_Book,T.n_Book_now,rfl,_,rfl,_,rfl,_,rfl,A,sl,H0,_,k,nm,none,rfl,b1,hn,hs,λH2 b2=>?_⟩;refine⟨by show 3<=sizeLine;decide,λp hp=>?_⟩;exact kk _ sl B.rows p (b2.same.free hp) (b2.out (.inl hp)) rfl (by rw[show (none:Option Int).map (B.now+·)=none from rfl,gput_same hk];exact R)
  |some x=>
   refine⟨_,rfl,rfl,_,rfl,iteF ?_⟩;refine⟨_,rfl,_,rfl,_,rfl,_,_,_,_,_,rfl,b.book,T.cl_Book,T.n_Book_now,rfl,_,rfl,_,_,rfl,rfl,?_⟩;have hx:=hp x rfl;refine⟨A,sl,H0,B,S,n,k,B.now+x,f,rfl,b,G,R,hk,by omega,hd1,hd2,hl,λH2 sl2 rows2 b2 e2 R2=>?_⟩;have g1:=b2.getN k;rw[show get _ k=some nm from hn] at g1;refine⟨_,rfl,_,_,_,_,_,rfl,b2.book,T.cl_Book,T.n_Book_now,rfl,_,rfl,_,rfl,_,_,_,_,_,rfl,b2.book,T.cl_Book,T.n_Book_names,rfl,_,rfl,_,_,rfl,g1,?_⟩;refine⟨by show 3<=sizeLine;decide,λp hp=>?_⟩;exact kk _ sl2 rows2 p (b2.same.free hp) (b2.out (.inl hp)) e2 R2
end Tk
end
section
namespace Tb
open PySem L2 Mir Rk
theorem Out.sameT{B:BkS}(o:Out B){t:Dct Int}(nd:(keys t).Nodup)(h:∀m,get t m=get B.ticks m):Out {B with ticks:=t} where
 ndT:=nd
 ndK:=o.ndK
 ndN:=o.ndN
 ndS:=o.ndS
 nx:=o.nx
 dom:=o.dom
 nm:=λk=>by show (get B.names k).isSome=((get t k).isSome||(get B.kept k).isSome);rw[h];exact o.nm k
 st:=o.st
 pos:=o.pos
 dis:=λk e=>o.dis k (by rw[←h];exact e)
 kp:=o.kp
theorem Out.rows{B:BkS}(o:Out B)(r:List RowS):Out {B with rows:=r}:=⟨o.ndT,o.ndK,o.ndN,o.ndS,o.nx,o.dom,o.nm,o.st,o.pos,o.dis,o.kp⟩
theorem Out.nowS{B:BkS}(o:Out B)(r:Int):Out {B with now:=r}:=⟨o.ndT,o.ndK,o.ndN,o.ndS,o.nx,o.dom,o.nm,o.st,o.pos,o.dis,o.kp⟩
end Tb
namespace Tk
open PySem L2 Mir Rk Tb
open PyProof.Rows (boot_sorted boot_min boot_enumerate boot_isinstance)
structure BOK(S:Int)(n:Nat)(B:BkS):Prop where
 geo:Geo S n B
 rack:RackOK S n B.now B.rows (get B.ticks)
 out:Out B
 nn:0<=B.now
def RingsAt(H:Hp)(l:Addr)(rs:List (Int×Int×Str)):Prop:=∃qs:List (Addr×Int×Int×Str),qs.map (·.2)=rs/\H l=some (.lst (qs.map λq=>V.ref q.1))/\∀q∈qs,H q.1=some (.tup (Xl q.2))
theorem RingsAt.same{H H':Hp}{l:Addr}{rs:List (Int×Int×Str)}(r:RingsAt H l rs)(s:Same H H'):RingsAt H' l rs:=by
 obtain⟨qs,e,h,t⟩:=r;exact⟨qs,e,s _ _ h,λq hq=>s _ _ (t q hq)⟩
theorem RingsAt.snoc{H:Hp}{l p:Addr}{r:Int×Int×Str}{qs:List (Addr×Int×Int×Str)}(h:H l=some (.lst (qs.map λq=>V.ref q.1)))(t:∀q∈qs,H q.1=some (.tup (Xl q.2)))(hp:H p=none):
  RingsAt (upd (upd H p (.tup (Xl r))) l (.lst ((qs.map λq=>V.ref q.1)++[.ref p]))) l (qs.map (·.2)++[r]):=by
 have npl:p≠l:=λz=>by rw[z,h] at hp;cases hp
 refine⟨qs++[(p,r)],by simp,by rw[Zb];simp,λq hq=>?_⟩;rcases List.mem_append.mp hq with hq|hq
 ·have tq:=t q hq;have n1:q.1≠l:=λz=>by rw[z,h] at tq;cases tq
  have n2:q.1≠p:=λz=>by rw[z,hp] at tq;cases tq
  rw[Zc n1,Zc n2];exact tq
 ·have e:q=(p,r):=by simpa using hq
  subst e;rw[Zc npl,Zb]
section
variable {P:Program}{w:World}{K:W.Frag}{mg:Str->Option Value}{base:Heap}{a:Ad}
def spTurnTo(c:Cl):Sp:=λvs H Q _=>∃(A:Adr) (sl:Sl) (H0:Hp) (B:BkS) (S:Int) (n:Nat) (start goal:Int),vs=[.ref (A.ad .book),.int start]/\Bk c A sl H0 H B/\BOK S n B/\IsMin S n B.now (get B.ticks) start/\start<=goal/\
 ∀(H':Hp) (sl':Sl) (H1:Hp) (B':BkS) (lr:Addr) (rs:List (Int×Int×Str)),Same H0 H1->H0 lr=none->RingsAt H1 lr rs->Bk c A sl' H1 H' B'->BOK S n B'->B'.now=start->B'.next=B.next->rest B'=rest B->Steps goal (wait B) rs (wait B')->rs.length<=63->Q (.ref lr) H'
theorem sc_turn_to:FnScope ["book","start","rung","number"] ["book","start"] (Zd Vo):=Zu
structure Mid(c:Cl)(A:Adr)(sl:Sl)(H0:Hp)(B:BkS)(S:Int)(n:Nat)(start goal:Int)(out:List Int)(l lr:Addr)(i:Nat)(H:Hp)(H1:Hp)(Bi:BkS)(rs:List (Int×Int×Str)):Prop where
 bk:Bk c A sl H1 H Bi
 same:Same H0 H1
 lst:H1 l=some (.lst (out.map V.int))
 rng:RingsAt H1 lr rs
 geo:Geo S n Bi
 ok:Out Bi
 now:Bi.now=start
 nx:Bi.next=B.next
 rst:rest Bi=rest B
 steps:Steps goal (wait B) rs (wait Bi)
 len:rs.length<=i
 rack:RackOK S n start Bi.rows (λk=>if k∈out.drop i then none else get Bi.ticks k)
 pend:∀k,k∈out.drop i->∃t,get Bi.ticks k=some t/\start<=t
theorem drop_cons{out:List Int}{i:Nat}{k:Int}(h:out[i]?=some k):out.drop i=k::out.drop (i+1):=by
 have hi:i<out.length:=(List.getElem?_eq_some_iff.mp h).1;rw[List.drop_eq_getElem_cons hi];congr 1
 exact(List.getElem?_eq_some_iff.mp h).2
theorem Qn{B:BkS}{k y:Int}{sp:Option Int}(h:y≠k):get (ringB B k sp).ticks y=get B.ticks y:=by
 cases sp with
 |none=>show get (drop B.ticks k) y=_;rw[Zy,if_neg h]
 |some x=>show get (put B.ticks k (B.now+x)) y=_;rw[ZD,if_neg h]
theorem ok_turn_to(T:Txt K mg a):FnOk P w K mg base (CXe P w) 6 a.f_turn_to a.fd_turn_to ["book","start"] (spTurnTo (clOf a)):=by
 have G_Rack_take_first:=Tj (P:=P) (w:=w) (base:=base) T;have G_ring:=ok_ring (P:=P) (w:=w) (base:=base) T;have G_start_waiting:=YH (P:=P) (w:=w) (base:=base) T;refine T.F_turn_to.okN sc_turn_to (λvs H Q E h=>?_) (λcdv A' outer s H vs Q E hr h=>?_)
 ·obtain⟨A,sl,H0,B,S,n,start,goal,rfl,_⟩:=h;rfl
 ·obtain⟨A,sl,H0,B,S,n,start,goal,rfl,b,ok,M,hg,kk⟩:=h;have hu:=YK hr;refine⟨_,(Zh (Xa (pv 0) (pv 1) rfl)
   (Zh (Zw (i:=2) sc_turn_to.nd rfl (Or.inl rfl) (YN Ze))
   (Zh (Vx PassesOwn.never rfl (Ty (Yu (Zx (pv 0) rfl) T.cl_Rack T.m_Rack_take_first G_Rack_take_first (hr.mono (by decide)) T.B_Rack_take_first .nil ZB)) (Yi (i:=3) sc_turn_to.nd rfl (Or.inl rfl)) (Zf (ZG (Zq XF (Zr hu (Zx (pv 0) rfl) (pv 3) (λ_ _=>rfl)) (pv 1) (Zz _)) (Zf (ZH (VW F.plainAttrs_list F.slot_list_append F.type_list_append Ua (pv 2) (Za (ZA G_ring (hr.mono (by decide)) rfl T.f_ring T.kp_ring T.B_ring .nil ZB (Za (pv 0) (Za (pv 3) Ze))) Ze)))) (Zf (ZH (ZA G_start_waiting (hr.mono (by decide)) rfl T.f_start_waiting T.kp_start_waiting T.B_start_waiting .nil ZB (Za (pv 0) (Za (pv 3) (Za (Zr hu (Zx (pv 0) rfl) (pv 3) (λ_ _=>rfl)) Ze)))))))))
   (Zf (Zn (pv 2)))))),?_⟩
  refine⟨_,rfl,_,rfl,_,_,_,_,rfl,b.book,T.cl_Book,T.n_Book_now,(by show 7<1000;decide),?_⟩;have b1:=b.wNow start;refine⟨by decide,λlr hlr=>?_⟩;have b2:=b1.out (o:=.lst []) (.inl hlr);have hlr0:H0 lr=none:=b1.same.free hlr;refine⟨_,rfl,_,_,_,_,_,rfl,b2.book,T.cl_Book,T.n_Book_rack,rfl,_,_,_,rfl,b2.rack,rfl,?_⟩;refine⟨A,sl,_,_,S,n,B.now,get B.ticks,start,rfl,b2,ok.geo.up rfl rfl rfl,ok.rack,M,λH3 l out rows' hl b3 e3 R3 hs hm=>?_⟩;have hS:=ok.rack.pS;obtain⟨k0,t0,hk0,hst0⟩:=M.one;have hlt:B.now<start:=by rw[←hst0];exact lt_st hS (ok.rack.ahead k0 t0 hk0)
  have hlen:out.length<=63:=by
   have q:=(YO hs).length_le_of_subset (l₂:=(List.range 63).map (λ(i:Nat)=>(i:Int))) λk hk=>by
    obtain⟨t,ht,_⟩:=(hm k).mp hk;obtain⟨z1,z2⟩:=ok.rack.dom k t ht;exact List.mem_map.mpr ⟨k.toNat,List.mem_range.mpr (by omega),by omega⟩
   simpa using q
  have hlne:lr≠l:=λz=>by rw[←z,Zb] at hl;cases hl
  refine⟨_,rfl,⟨_,SqL.of (b3.same _ _ Zb)⟩,?_⟩;refine RO (K:=K) (a:=l) (xs:=out.map V.int) (λi σ Hi=>∃x sl' H1 Bi rs,σ=[some (.ref (A.ad .book)),some (.int start),some (.ref lr),x]/\Mid (clOf a) A sl' H0 B S n start goal out l lr i Hi H1 Bi rs)
   ?_ (λi σ Hi _ ⟨x,sl',H1,Bi,rs,_,m⟩=>SqL.of (m.bk.same _ _ m.lst)) ?_ ?_
  ·refine⟨_,sl,_,_,[],rfl,b3,(Same.upd hlr0).trans (Same.upd hl),Zb,⟨[],rfl,by rw[Zc hlne,Zb];rfl,λq hq=>by cases hq⟩,ok.geo.up rfl rfl e3,(ok.out.nowS _).rows _,rfl,rfl,rfl,.nil,Nat.le_refl _,?_,λk hk=>?_⟩
   ·refine(R3.later (Int.le_of_lt hlt) λk t e=>?_).congr λk=>?_
    ·rw[Option.filter_eq_some_iff] at e;have h1:=M.least k t e.1;have h2: ¬st S n B.now t=start:=by simpa using e.2
     omega
    ·rw[List.drop_zero];show _=if k∈out then none else get B.ticks k
     cases e:get B.ticks k with
     |none=>
      by_cases z:k∈out<;>simp[z]
     |some t=>
      have q:=hm k;rw[e] at q;by_cases z:st S n B.now t=start
      ·rw[if_pos (q.mpr ⟨t,rfl,z⟩)];simp[Option.filter,z]
      ·rw[if_neg λy=>by
        obtain⟨t',h1,h2⟩:=q.mp y;cases h1;exact z h2]
       simp[Option.filter,z]
   ·rw[List.drop_zero] at hk;obtain⟨t,h1,h2⟩:=(hm k).mp hk;exact⟨t,h1,by rw[←h2];exact Tt hS n B.now t⟩
  ·rintro i v σ Hi hv ⟨x,sl',H1,Bi,rs,rfl,m⟩;obtain⟨k,hk,rfl⟩:∃k,out[i]?=some k/\v=V.int k:=by
    rw[List.getElem?_map] at hv;cases e:out[i]? with
    |none=>rw[e] at hv;cases hv
    |some k=>rw[e] at hv;exact⟨k,rfl,(Option.some.inj hv).symm⟩
   have hdr:=drop_cons hk;have hkd:k∈out.drop i:=by rw[hdr];exact List.mem_cons_self
   have hi:i<out.length:=(List.getElem?_eq_some_iff.mp hk).1;have srt':(k::out.drop (i+1)).Pairwise (·<·):=by rw[←hdr];exact hs.sublist (List.drop_sublist _ _)
   obtain⟨hlow,_⟩:=List.pairwise_cons.mp srt';have hkn:k∉out.drop (i+1):=λz=>by have:=hlow k z;omega
   have hmem:∀y,y≠k->(y∈out.drop i↔y∈out.drop (i+1)):=λy hy=>by
    rw[hdr,List.mem_cons];exact⟨λz=>z.resolve_left hy,.inr⟩
   obtain⟨t,ht,hge⟩:=m.pend k hkd;obtain⟨nm,sp,hn,hsp,hw⟩:=m.ok.waits ht;have gt:=m.bk.getT k;rw[ht] at gt;have dm:=m.ok.domT ht;have nx63:=m.ok.nx;have lns:=m.ok.lens;have hfk:(if k∈out.drop i then none else get Bi.ticks k)=none:=if_pos hkd;refine⟨_,rfl,_,_,_,_,_,rfl,m.bk.book,T.cl_Book,T.n_Book_ticks,rfl,_,rfl,_,_,rfl,gt,_,rfl,rfl,_,rfl,?_⟩;refine ite2 (λc=>?_) (λc=>?_)
   ·have c':t=start:=by have:=of_decide_eq_true c;injection this
    subst c';obtain⟨qs,eq,hql,hqt⟩:=id m.rng;refine⟨_,rfl,.inl ⟨rfl,_,SqL.of (m.bk.same _ _ hql)⟩,_,rfl,_,rfl,?_⟩;refine⟨A,sl',H1,Bi,S,n,k,t,_,nm,sp,rfl,m.bk,m.geo,(by rw[m.now];exact m.rack),hfk,by omega,by omega,by omega,ht,hn,hsp,λs z=>m.ok.pos k s (by rw[hsp,z]),λH2 sl2 rows2 p hp b2 e2 R2=>?_⟩;have hl2:H2 lr=some (.lst (qs.map λq=>V.ref q.1)):=b2.same _ _ (by rw[Zc (λz=>by rw[←z,hql] at hp;cases hp)];exact hql);have hql2:(upd H1 p (.tup (Xl (Bi.now,k,nm)))) lr=some (.lst (qs.map λq=>V.ref q.1)):=by rw[Zc (λz=>by rw[←z,hql] at hp;cases hp)];exact hql
    have hrl:qs.length=rs.length:=by rw[←eq,List.length_map]
    have hml:=m.len;refine⟨_,_,_,rfl,rfl,hl2,Vd (by rw[List.length_map];omega),?_⟩;have b4:=b2.out (x:=lr) (o:=.lst ((qs.map λq=>V.ref q.1)++[.ref p])) (.inr ⟨_,hql2⟩);have lrl:l≠lr:=hlne.symm;refine⟨_,sl2,_,{ringB Bi k sp with rows:=rows2},rs++[(t,k,nm)],rfl,b4,?_,?_,?_,?_,(m.ok.ringB ht hsp).rows rows2,?_,?_,?_,?_,?_,?_,λy hy=>?_⟩
    ·intro y u hy;have hy1:=m.same y u hy;rw[Zc (Zt hy hlr0),Zc (Zt hy1 hp)];exact hy1
    ·rw[Zc lrl,Zc (Zt m.lst hp)];exact m.lst
    ·rw[←eq,show t=Bi.now from m.now.symm];exact RingsAt.snoc hql hqt hp
    ·cases sp<;>exact m.geo.up rfl rfl e2
    ·cases sp<;>exact m.now
    ·cases sp<;>exact m.nx
    ·rw[←m.rst];exact m.ok.rest_ringB ht
    ·have q:=m.ok.wait_ringB (k:=k) (sp:=sp) (nm:=nm) (by rw[ht,m.now]) hsp hn;have hst:wait {ringB Bi k sp with rows:=rows2}=fput (wait Bi) k (after ⟨nm,t,sp⟩):=by rw[←m.now];rw[m.now];rw[←show Bi.now=t from m.now];exact q
     rw[hst];refine .snoc m.steps (a:=⟨nm,t,sp⟩) ⟨hw,hg,λy z hz=>?_⟩;obtain⟨_,_,hzt⟩:=alarm_some.mp hz;by_cases hy:y∈out.drop i
     ·obtain⟨t',h1,h2⟩:=m.pend y hy;rw[hzt] at h1;cases h1;have hky:k<=y:=by
       rw[hdr] at hy;rcases List.mem_cons.mp hy with e|e
       ·omega
       ·exact Int.le_of_lt (hlow y e)
      show t<z.tick\/(t=z.tick/\k<=y);omega
     ·have:=m.rack.ahead y z.tick (by show (if y∈out.drop i then none else get Bi.ticks y)=_;rw[if_neg hy];exact hzt);exact .inl this
    ·rw[List.length_append,List.length_singleton];have:=m.len;omega
    ·rw[←show Bi.now=t from m.now];refine R2.congr λy=>?_;show _=if y∈out.drop (i+1) then none else get (ringB Bi k sp).ticks y
     unfold gput;by_cases hy:y=k
     ·rw[if_pos hy,hy,if_neg hkn];cases sp with
      |none=>show none=get (drop Bi.ticks k) k;rw[Zy,if_pos rfl]
      |some x=>show some (Bi.now+x)=get (put Bi.ticks k (Bi.now+x)) k;rw[ZD,if_pos rfl]
     ·rw[if_neg hy,Qn hy];dsimp only;by_cases hz:y∈out.drop (i+1)
      ·rw[if_pos hz,if_pos ((hmem y hy).mpr hz)]
      ·rw[if_neg hz,if_neg λq=>hz ((hmem y hy).mp q)]
    ·have hyk:y≠k:=λz=>hkn (z▸hy);show ∃t',get (ringB Bi k sp).ticks y=some t'/\t<=t';rw[Qn hyk];exact m.pend y ((hmem y hyk).mpr hy)
   ·have c':t≠start:=λz=>c (decide_eq_true (congrArg V.int z));refine⟨_,rfl,_,rfl,_,rfl,_,_,_,_,_,rfl,m.bk.book,T.cl_Book,T.n_Book_ticks,rfl,_,rfl,_,_,rfl,gt,?_⟩;refine⟨A,sl',H1,Bi,S,n,k,t,_,rfl,m.bk,m.geo,(by rw[m.now];exact m.rack),hfk,(by rw[m.now];omega),by omega,by omega,by omega,λH2 sl2 rows2 b2 e2 R2=>?_⟩;have eget:∀y,get (put Bi.ticks k t) y=get Bi.ticks y:=λy=>by
     rw[ZD];by_cases hy:y=k
     ·rw[if_pos hy,hy,ht]
     ·rw[if_neg hy]
    have ew:wait {Bi with rows:=rows2,ticks:=put Bi.ticks k t}=wait Bi:=by
     funext y;show ZW (get Bi.names y) (get Bi.steps y) (get (put Bi.ticks k t) y)=_;rw[eget];rfl
    refine⟨_,sl2,H1,_,rs,rfl,b2,m.same,m.lst,m.rng,m.geo.up rfl rfl e2,(m.ok.sameT (Ya m.ok.ndT _ _) eget).rows rows2,m.now,m.nx,m.rst,(by rw[ew];exact m.steps),(by have:=m.len;omega),?_,λy hy=>?_⟩
    ·rw[←m.now];refine R2.congr λy=>?_;show _=if y∈out.drop (i+1) then none else get (put Bi.ticks k t) y
     rw[eget];unfold gput;by_cases hy:y=k
     ·rw[if_pos hy,hy,if_neg hkn,ht]
     ·rw[if_neg hy];dsimp only;by_cases hz:y∈out.drop (i+1)
      ·rw[if_pos hz,if_pos ((hmem y hy).mpr hz)]
      ·rw[if_neg hz,if_neg λq=>hz ((hmem y hy).mp q)]
    ·have hyk:y≠k:=λz=>hkn (z▸hy);show ∃t',get (put Bi.ticks k t) y=some t'/\start<=t';rw[eget];exact m.pend y ((hmem y hyk).mpr hy)
  ·rintro σ Hi ⟨x,sl',H1,Bi,rs,rfl,m⟩;rw[List.length_map] at m;have hR:=m.rack;rw[List.drop_length] at hR;refine⟨_,rfl,kk Hi sl' H1 Bi lr rs m.same hlr0 m.rng m.bk ⟨m.geo,(by rw[m.now];exact hR.congr λy=>by simp),m.ok,by rw[m.now];have:=ok.nn;omega⟩ m.now m.nx m.rst m.steps (by have:=m.len;omega)⟩
end
end Tk
end
section
namespace Tk
open PySem L2 Mir Rk Tb
open PyProof.Rows (boot_sorted boot_min boot_enumerate boot_isinstance boot_sum boot_max)
variable {P:Program}{w:World}{K:W.Frag}{mg:Str->Option Value}{base:Heap}{a:Ad}
structure Vw where
 S:Int
 n:Nat
 now:Int
 next:Int
 wait:Fn Str
 rest:Fn Str
def BookAt(c:Cl)(H0 H:Hp)(p:Addr)(v:Vw):Prop:=∃A sl B,A.ad .book=p/\Bk c A sl H0 H B/\BOK v.S v.n B/\B.now=v.now/\B.next=v.next/\wait B=v.wait/\rest B=v.rest
theorem RingsAt.cat{H:Hp}{l:Addr}{qs qs2:List (Addr×Int×Int×Str)}(h:H l=some (.lst (qs.map λq=>V.ref q.1)))(t:∀q∈qs,H q.1=some (.tup (Xl q.2)))(t2:∀q∈qs2,H q.1=some (.tup (Xl q.2))):
  RingsAt (upd H l (.lst ((qs.map λq=>V.ref q.1)++(qs2.map λq=>V.ref q.1)))) l (qs.map (·.2)++qs2.map (·.2)):=by
 refine⟨qs++qs2,by simp,by rw[Zb];simp,λq hq=>?_⟩;have tq:H q.1=some (.tup (Xl q.2)):=by
  rcases List.mem_append.mp hq with hq|hq
  ·exact t q hq
  ·exact t2 q hq
 rw[Zc λz=>by rw[z,h] at tq;cases tq];exact tq
def RY(c:Cl):Sp:=λvs H Q _=>∃(A:Adr) (sl:Sl) (H0:Hp) (B:BkS) (S:Int) (n:Nat) (now:Int) (f:Int->Option Int),vs=[.ref (A.ad .rack)]/\Bk c A sl H0 H B/\Geo S n B/\RackOK S n now B.rows f/\∀x,(((∀k,f k=none)/\x= .non)\/∃m,IsMin S n now f m/\x= .int m)->Q x H
theorem Ux(T:Txt K mg a):FnOk P w K mg base (CXe P w) 2 a.f_Rack_first_start a.fd_Rack_first_start ["self"] (RY (clOf a)):=
 (UX T).imp λvs H Q E ⟨A,sl,H0,B,S,n,now,f,e,b,G,R,k⟩=>⟨A,sl,H0,B,S,n,now,f,e,b,G,R,λh=>k _ (.inl ⟨h,rfl⟩),λm hm=>k _ (.inr ⟨m,hm,rfl⟩)⟩
def spPass(c:Cl)(Past:Addr):Sp:=λvs H Q E=>∃(H0:Hp) (p:Addr) (v:Vw) (t:Int),vs=[.ref p,.int t]/\BookAt c H0 H p v/\Lg t/\(t<0->E (.ref Past) none H)/\(0<=t->muF (v.now+t) 63 v.wait<=1000000/\
 ∀(H' H1:Hp) (lr:Addr) (rs:List (Int×Int×Str)) (g:Fn Str),Same H0 H1->H0 lr=none->RingsAt H1 lr rs->BookAt c H1 H' p {v with now:=v.now+t,wait:=g}->Runs (v.now+t) v.wait rs g->Q (.ref lr) H')
theorem sc_pass_ticks:FnScope ["book","ticks","end","rung","start"] ["book","ticks"] (Zd Xd):=Zu
structure Going(c:Cl)(A:Adr)(sl:Sl)(H0:Hp)(B:BkS)(S:Int)(n:Nat)(goal:Int)(lr:Addr)(H:Hp)(H1:Hp)(Bi:BkS)(rs:List (Int×Int×Str))(x:V):Prop where
 bk:Bk c A sl H1 H Bi
 same:Same H0 H1
 rng:RingsAt H1 lr rs
 ok:BOK S n Bi
 nx:Bi.next=B.next
 rst:rest Bi=rest B
 le:Bi.now<=goal
 steps:Steps goal (wait B) rs (wait Bi)
 st:((∀k,get Bi.ticks k=none)/\x= .non)\/∃m,IsMin S n Bi.now (get Bi.ticks) m/\x= .int m
theorem UZ(T:Txt K mg a):FnOk P w K mg base (CXe P w) 7 a.f_pass_ticks a.fd_pass_ticks ["book","ticks"] (spPass (clOf a) a.C_Past):=by
 have G_check_stretch:=VX (P:=P) (w:=w) (base:=base) T;have G_Rack_first_start:=Ux (P:=P) (w:=w) (base:=base) T;have G_turn_to:=ok_turn_to (P:=P) (w:=w) (base:=base) T;refine T.F_pass_ticks.okE sc_pass_ticks (λvs H Q E h=>?_) (λcdv A' outer s H vs Q E hr h=>?_)
 ·obtain⟨H0,p,v,t,rfl,_⟩:=h;rfl
 ·obtain⟨H0,p,v,t,rfl,⟨A,sl,B,rfl,b,ok,e1,e2,e3,e4⟩,hl,k0,k1⟩:=h;have hu:=YK hr;refine⟨_,(Zh (ZH (ZA G_check_stretch (hr.mono (by decide)) rfl T.f_check_stretch T.kp_check_stretch T.B_check_stretch .nil Uv (Za (pv 1) Ze)))
   (Zh (Zw (i:=2) sc_pass_ticks.nd rfl (Or.inl rfl) (Zp ZZ (Zx (pv 0) rfl) (pv 1)))
   (Zh (Zw (i:=3) sc_pass_ticks.nd rfl (Or.inl rfl) (YN Ze))
   (Zh (Zw (i:=4) sc_pass_ticks.nd rfl (Or.inl rfl) (Yu (Zx (pv 0) rfl) T.cl_Rack T.m_Rack_first_start G_Rack_first_start (hr.mono (by decide)) T.B_Rack_first_start .nil ZB))
   (Zh (PS.nox (Tx PassesOwn.never (RA (Zq Ui (pv 4) ZK (Zz _)) (Tw (Zq Qp (pv 4) (pv 2) (Zz _)))).pt (Zh (ZH (VW F.plainAttrs_list F.slot_list_extend F.type_list_extend Qu (pv 3) (Za (ZA G_turn_to (hr.mono (by decide)) rfl T.f_turn_to T.kp_turn_to T.B_turn_to .nil ZB (Za (pv 0) (Za (pv 4) Ze))) Ze)))
   (Zf (Zw (i:=4) sc_pass_ticks.nd rfl (Or.inl rfl) (Yu (Zx (pv 0) rfl) T.cl_Rack T.m_Rack_first_start G_Rack_first_start (hr.mono (by decide)) T.B_Rack_first_start .nil ZB))))))
   (Zh (Xa (pv 0) (pv 2) rfl)
   (Zf (Zn (pv 3))))))))),?_⟩
  refine⟨_,rfl,t,rfl,hl,k0,λht=>?_⟩;obtain⟨hmu,k1⟩:=k1 ht;refine⟨_,rfl,_,_,_,_,_,rfl,b.book,T.cl_Book,T.n_Book_now,rfl,_,rfl,_,_,rfl,rfl,?_⟩;refine⟨by decide,λlr hlr=>?_⟩;have hlr0:H0 lr=none:=b.same.free hlr;have b1:=b.out (o:=.lst []) (.inl hlr);refine⟨_,rfl,_,_,_,_,_,rfl,b1.book,T.cl_Book,T.n_Book_rack,rfl,_,_,_,rfl,b1.rack,rfl,?_⟩;refine⟨A,sl,_,B,v.S,v.n,B.now,get B.ticks,rfl,b1,ok.geo,ok.rack,λx hx=>?_⟩;refine⟨λm σ Hi=>∃x sl' H1 Bi rs,σ=[some (.ref (A.ad .book)),some (.int t),some (.int (B.now+t)),some (.ref lr),some x]/\Going (clOf a) A sl' H0 B v.S v.n (B.now+t) lr Hi H1 Bi rs x/\m=(B.now+t-Bi.now).toNat,
   ⟨_,x,sl,_,B,[],rfl,⟨b1,Same.upd hlr0,⟨[],rfl,Zb,λq hq=>by cases hq⟩,ok,rfl,rfl,by omega,.nil,hx⟩,rfl⟩,?_⟩
  rintro m σ Hi ⟨x,sl',H1,Bi,rs,rfl,g,rfl⟩;have mu2:rs.length+muF (B.now+t) 63 (wait Bi)<=1000000:=by
   have:=(g.steps.good ok.out.good).2;rw[e1,e3] at *;omega
  have fin:(∀k y,get Bi.ticks k=some y->B.now+t<st v.S v.n Bi.now y)->∀(H2:Hp),Bk (clOf a) A sl' H1 H2 {Bi with now:=B.now+t}->Q (.ref lr) H2:=λhb H2 b2=>by
   have hS:=g.ok.rack.pS;refine k1 H2 H1 lr rs (wait Bi) g.same hlr0 g.rng ⟨A,sl',_,rfl,b2,⟨g.ok.geo.up rfl rfl rfl,g.ok.rack.later g.le hb,g.ok.out.nowS _,by show 0<=B.now+t;have:=ok.nn;omega⟩,by show B.now+t=v.now+t;rw[e1],g.nx.trans e2,rfl,g.rst.trans e4⟩ ?_;rw[←e1,←e3];refine g.steps.stop λk al hal=>?_;obtain⟨_,_,h3⟩:=alarm_some.mp hal;have:=hb k _ h3;have:=Tt hS v.n Bi.now al.tick;omega
  rcases g.st with ⟨hn,rfl⟩|⟨mm,hm,rfl⟩
  ·refine⟨_,rfl,rfl,_,rfl,iteF ?_⟩;refine iteF ?_;refine⟨_,rfl,_,rfl,_,_,_,_,rfl,g.bk.book,T.cl_Book,T.n_Book_now,(by show 7<1000;decide),?_⟩;exact⟨_,rfl,fin (λk y e=>by rw[hn k] at e;cases e) _ (g.bk.wNow _)⟩
  ·refine⟨_,rfl,rfl,_,rfl,iteT ?_⟩;refine⟨_,rfl,_,rfl,_,_,rfl,rfl,_,rfl,?_⟩;refine ite2 (λc=>?_) (λc=>?_)
   ·have c':mm<=B.now+t:=of_decide_eq_true c;have hlt:Bi.now<mm:=by
     obtain⟨k',t',h1,h2⟩:=hm.one;rw[←h2];exact lt_st g.ok.rack.pS (g.ok.rack.ahead k' t' h1)
    refine⟨λσ' H'=>∃x sl' H1 Bi' rs,σ'=[some (.ref (A.ad .book)),some (.int t),some (.int (B.now+t)),some (.ref lr),some x]/\Going (clOf a) A sl' H0 B v.S v.n (B.now+t) lr H' H1 Bi' rs x/\Bi.now<Bi'.now,λσ' H' ⟨x,sl2,H2,Bi',rs2,h1,h2,h3⟩=>⟨_,?_,x,sl2,H2,Bi',rs2,h1,h2,rfl⟩,?_⟩
    ·have:=h2.le;have:=g.le;omega
    ·obtain⟨qs,eq,hql,hqt⟩:=id g.rng;refine⟨_,rfl,.inl ⟨rfl,_,SqL.of (g.bk.same _ _ hql)⟩,_,rfl,_,rfl,?_⟩;refine⟨A,sl',H1,Bi,v.S,v.n,mm,B.now+t,rfl,g.bk,g.ok,hm,c',λH2 sl2 H3 B3 l3 rs3 s3 hl3 r3 b3 ok3 n3 nx3 rst3 st3 len3=>?_⟩;obtain⟨qs3,eq3,hql3,hqt3⟩:=r3;have hq1:H3 lr=_:=s3 _ _ hql;have hll:qs.length=rs.length:=by rw[←eq,List.length_map]
     have hll3:qs3.length=rs3.length:=by rw[←eq3,List.length_map]
     have b4:=b3.out (x:=lr) (o:=.lst ((qs.map λq=>V.ref q.1)++(qs3.map λq=>V.ref q.1))) (.inr ⟨_,hq1⟩);refine⟨_,_,_,_,rfl,rfl,b3.same _ _ hq1,b3.same _ _ hql3,(by rw[List.length_map,List.length_map];have:(1000063:Nat)<=sizeLine:=(by decide);omega),?_⟩;refine⟨_,rfl,_,_,_,_,_,rfl,b4.book,T.cl_Book,T.n_Book_rack,rfl,_,_,_,rfl,b4.rack,rfl,?_⟩;refine⟨A,sl2,_,B3,v.S,v.n,B3.now,get B3.ticks,rfl,b4,ok3.geo,ok3.rack,λx hx=>?_⟩;refine⟨x,sl2,_,B3,rs++rs3,rfl,⟨b4,λy u hy=>?_,?_,ok3,nx3.trans g.nx,rst3.trans g.rst,by omega,g.steps.trans st3,hx⟩,by omega⟩
     ·rw[Zc (Zt hy hlr0)];exact s3 _ _ (g.same _ _ hy)
     ·rw[←eq,←eq3];exact RingsAt.cat hq1 (λq hq=>s3 _ _ (hqt q hq)) hqt3
   ·have c': ¬mm<=B.now+t:=λz=>c (decide_eq_true z);refine⟨_,rfl,_,rfl,_,_,_,_,rfl,g.bk.book,T.cl_Book,T.n_Book_now,(by show 7<1000;decide),?_⟩;exact⟨_,rfl,fin (λk y e=>by have:=hm.least k y e;omega) _ (g.bk.wNow _)⟩
def spSet(c:Cl)(Past:Addr):Sp:=λvs H Q E=>∃(H0:Hp) (p:Addr) (v:Vw) (x:Str) (due:Int) (sp:Option Int),vs=[.ref p,.str x,.int due,XG sp]/\BookAt c H0 H p v/\Lg due/\(∀s,sp=some s->Lg s)/\v.next<63/\
 ((due<=v.now\/∃s,sp=some s/\s<1)->E (.ref Past) none H)/\(v.now<due->(∀s,sp=some s->1<=s)->∀H',BookAt c H0 H' p {v with next:=v.next+1,wait:=fput v.wait v.next (some ⟨x,due,sp⟩)}->Q (.int v.next) H')
theorem sc_set_alarm:FnScope ["book","name","due","step","number"] ["book","name","due","step"] (Zd Xt):=Zu
theorem Pk(T:Txt K mg a):FnOk P w K mg base (CXe P w) 5 a.f_set_alarm a.fd_set_alarm ["book","name","due","step"] (spSet (clOf a) a.C_Past):=by
 have G_check_tick:=Ta (P:=P) (w:=w) (base:=base) T;have G_check_step:=Qd (P:=P) (w:=w) (base:=base) T;have G_start_waiting:=YH (P:=P) (w:=w) (base:=base) T;refine T.F_set_alarm.okE sc_set_alarm (λvs H Q E h=>?_) (λcdv A' outer s H vs Q E hr h=>?_)
 ·obtain⟨H0,p,v,x,due,sp,rfl,_⟩:=h;rfl
 ·obtain⟨H0,p,v,x,due,sp,rfl,⟨A,sl,B,rfl,b,ok,e1,e2,e3,e4⟩,hl1,hl2,h63,k0,k1⟩:=h;have hu:=YK hr;refine⟨_,(Zh (ZH (ZA G_check_tick (hr.mono (by decide)) rfl T.f_check_tick T.kp_check_tick T.B_check_tick .nil Uv (Za (pv 0) (Za (pv 2) Ze))))
   (Zh (ZH (ZA G_check_step (hr.mono (by decide)) rfl T.f_check_step T.kp_check_step T.B_check_step .nil Uv (Za (pv 3) Ze)))
   (Zh (Zw (i:=4) sc_set_alarm.nd rfl (Or.inl rfl) (Zx (pv 0) rfl))
   (Zh (Xa (pv 0) (Zp ZZ (pv 4) Zg) rfl)
   (Zh (YM hu (Zx (pv 0) rfl) (pv 4) (pv 1) rfl)
   (Zh (YM hu (Zx (pv 0) rfl) (pv 4) (pv 3) rfl)
   (Zh (ZH (ZA G_start_waiting (hr.mono (by decide)) rfl T.f_start_waiting T.kp_start_waiting T.B_start_waiting .nil ZB (Za (pv 0) (Za (pv 4) (Za (pv 2) Ze)))))
   (Zf (Zn (pv 4)))))))))),?_⟩
  refine⟨_,rfl,_,rfl,A,sl,H0,B,due,rfl,b,hl1,λz=>k0 (.inl (by omega)),λhd=>?_⟩;refine⟨_,rfl,sp,rfl,hl2,λs z1 z2=>k0 (.inr ⟨s,z1,z2⟩),λhs=>?_⟩;have nx:=ok.out.nx;have lns:=ok.out.lens;refine⟨_,rfl,_,_,_,_,_,rfl,b.book,T.cl_Book,T.n_Book_next_number,rfl,?_⟩;refine⟨_,rfl,_,_,rfl,rfl,_,rfl,_,_,_,_,rfl,b.book,T.cl_Book,T.n_Book_next_number,(by show 7<1000;decide),?_⟩;have b1:=b.wNext (B.next+1);refine⟨_,rfl,_,rfl,_,_,_,_,_,rfl,b1.book,T.cl_Book,T.n_Book_names,rfl,_,rfl,_,_,rfl,b1.putN B.next x (by show B.names.length<=1000;omega),?_⟩;have b2:=b1.wNames (put B.names B.next x);refine⟨_,rfl,_,rfl,_,_,_,_,_,rfl,b2.book,T.cl_Book,T.n_Book_steps,rfl,_,rfl,_,_,rfl,b2.putSt B.next sp (by show B.steps.length<=1000;omega),?_⟩;have b3:=b2.wSteps (put B.steps B.next sp);refine⟨_,rfl,_,rfl,_,rfl,?_⟩;obtain⟨f1,f2,f3,f4⟩:=ok.out.fresh;refine⟨A,sl,H0,_,v.S,v.n,B.next,due,get B.ticks,rfl,b3,ok.geo.up rfl rfl rfl,ok.rack,f3,hd,nx.1,by omega,by show B.ticks.length<=1000;omega,λH4 sl4 rows4 b4 e5 R4=>?_⟩;refine⟨_,rfl,?_⟩;rw[←e2] at k1;refine k1 (by omega) hs H4 ⟨A,sl4,_,rfl,b4,⟨ok.geo.up rfl rfl e5,?_,(ok.out.setB (name:=x) (due:=due) (step:=sp) (by omega) hs).rows rows4,ok.nn⟩,e1,rfl,?_,?_⟩
  ·refine R4.congr λk=>?_;show gput (get B.ticks) B.next (some due) k=get (put B.ticks B.next due) k;rw[ZD];rfl
  ·rw[←e3];exact ok.out.wait_setB
  ·rw[←e4];exact ok.out.rest_setB (due:=due)
def spTime(c:Cl):Sp:=λvs H Q _=>∃(H0:Hp) (p:Addr) (v:Vw),vs=[.ref p]/\BookAt c H0 H p v/\Q (.int v.now) H
theorem QZ:FnScope ["self"] ["self"] (Zd XD):=Zu
theorem TD(T:Txt K mg a):FnOk P w K mg base (CXe P w) 1 a.f_Book_time a.fd_Book_time ["self"] (spTime (clOf a)):=by
 refine T.F_Book_time.okN QZ (λvs H Q E h=>?_) (λcdv A' outer s H vs Q E hr h=>?_)
 ·obtain⟨H0,p,v,rfl,_⟩:=h;rfl
 ·obtain⟨H0,p,v,rfl,⟨A,sl,B,rfl,b,ok,e1,e2,e3,e4⟩,k⟩:=h;refine⟨_,Zf (Zn (Zx (pv 0) rfl)),?_⟩;rw[←e1] at k;exact⟨_,rfl,_,_,_,_,_,rfl,b.book,T.cl_Book,T.n_Book_now,rfl,k⟩
def NumsOf(f:Fn Str)(l:List Int):Prop:=l.Pairwise (·<·)/\∀x,x∈l↔(f x).isSome=true
def spNums(c:Cl)(pick:Vw->Fn Str):Sp:=λvs H Q _=>∃(H0:Hp) (p:Addr) (v:Vw),vs=[.ref p]/\BookAt c H0 H p v/\∀(H':Hp) (l:Addr) (out:List Int),H0 l=none->BookAt c (upd H0 l (.lst (out.map V.int))) H' p v->NumsOf (pick v) out->Q (.ref l) H'
theorem SN:FnScope ["self"] ["self"] (Zd YD):=Zu
theorem Tm{α:Type}(f:α->V)(t:Dct α):mapK (λ_ x=>f x) t=(t.map λp=>(p.1,f p.2)).map λp=>(Sum.inl p.1,p.2):=by
 unfold mapK;rw[List.map_map];rfl
theorem Sr{α:Type}{t:Dct α}{x:Int}:x∈keys t↔(get t x).isSome=true:=by
 cases e:get t x with
 |none=>simp[get_none.mp e]
 |some v=>
  simp;rcases Classical.em (x∈keys t) with z|z
  ·simpa[keys] using z
  ·rw[get_none.mpr z] at e;cases e
theorem Uo(T:Txt K mg a):FnOk P w K mg base (CXe P w) 1 a.f_Book_waiting a.fd_Book_waiting ["self"] (spNums (clOf a) (·.wait)):=by
 refine T.F_Book_waiting.okN SN (λvs H Q E h=>?_) (λcdv A' outer s H vs Q E hr h=>?_)
 ·obtain⟨H0,p,v,rfl,_⟩:=h;rfl
 ·obtain⟨H0,p,v,rfl,⟨A,sl,B,rfl,b,ok,e1,e2,e3,e4⟩,k⟩:=h;refine⟨_,(Zf (Zn (ZF (Xj rfl) rfl T.b_sorted boot_sorted (Za (Zx (pv 0) rfl) Ze)))),?_⟩;have lns:=ok.out.lens;refine⟨_,rfl,_,_,_,_,_,rfl,b.book,T.cl_Book,T.n_Book_ticks,rfl,_,B.ticks.map λp=>(p.1,V.int p.2),rfl,(by rw[←Tm];exact b.ticks),(by rw[List.length_map];omega),λout hperm hsort l hl=>?_⟩;have e5:(B.ticks.map λp=>(p.1,V.int p.2)).map (·.1)=keys B.ticks:=by rw[List.map_map];rfl
  rw[e5] at hperm;obtain⟨h1,h2⟩:=Vc hperm hsort ok.out.ndT;refine k _ l out (b.same.free hl) ⟨A,sl,B,rfl,b.out (.inl hl),ok,e1,e2,e3,e4⟩ ⟨h1,λx=>?_⟩;show x∈out↔(v.wait x).isSome=true;rw[h2 x,Sr,←e3,←ok.out.tick_of x];cases wait B x<;>rfl
def spDue(c:Cl)(NotThere:Addr):Sp:=λvs H Q E=>∃(H0:Hp) (p:Addr) (v:Vw) (k:Int),vs=[.ref p,.int k]/\BookAt c H0 H p v/\Lg k/\(v.wait k=none->E (.ref NotThere) none H)/\∀al,v.wait k=some al->Q (.int al.tick) H
theorem sc_Book_due:FnScope ["self","number"] ["self","number"] (Zd XY):=Zu
theorem VL(T:Txt K mg a):FnOk P w K mg base (CXe P w) 1 a.f_Book_due a.fd_Book_due ["self","number"] (spDue (clOf a) a.C_NotThere):=by
 refine T.F_Book_due.okE sc_Book_due (λvs H Q E h=>?_) (λcdv A' outer s H vs Q E hr h=>?_)
 ·obtain⟨H0,p,v,k,rfl,_⟩:=h;rfl
 ·obtain⟨H0,p,v,k,rfl,⟨A,sl,B,rfl,b,ok,e1,e2,e3,e4⟩,hl,k0,k1⟩:=h;have hu:=YK hr;refine⟨_,(Zh (ZG (Ug (Vt hu (pv 1) (Zx (pv 0) rfl))) (Zf (Ve Sy rfl rfl T.c_NotThere T.x_NotThere (Za (VG (YX (Vg (pv 1) (YX Uu)))) Ze))) Zv)
   (Zf (Zn (Zr hu (Zx (pv 0) rfl) (pv 1) (λ_ _=>rfl))))),?_⟩
  have g:=b.getT k;refine⟨_,rfl,_,rfl,_,_,_,_,_,rfl,b.book,T.cl_Book,T.n_Book_ticks,rfl,_,_,rfl,g,_,rfl,?_⟩;have tk:=ok.out.tick_of k;rw[e3] at tk;cases e:get B.ticks k with
  |none=>
   rw[e] at tk;have:v.wait k=none:=by simpa using tk
   exact iteT ⟨_,rfl,_,rfl,hl,λy=>⟨by show 1<=sizeLine;decide,k0 this⟩⟩
  |some t=>
   rw[e] at g tk;cases e6:v.wait k with
   |none=>rw[e6] at tk;cases tk
   |some al=>
    rw[e6] at tk;have e7:al.tick=t:=by simpa using tk
    refine iteF ⟨_,rfl,_,_,_,_,_,rfl,b.book,T.cl_Book,T.n_Book_ticks,rfl,_,rfl,_,_,rfl,g,?_⟩;rw[←e7];exact k1 al e6
def spSoonest(c:Cl):Sp:=λvs H Q _=>∃(H0:Hp) (p:Addr) (v:Vw),vs=[.ref p]/\BookAt c H0 H p v/\∀H',BookAt c H0 H' p v->((∀k,v.wait k=none)->Q .non H')/\∀m k al,v.wait k=some al->al.tick=m->(∀k' al',v.wait k'=some al'->m<=al'.tick)->Q (.int m) H'
theorem SO:FnScope ["self"] ["self"] (Zd YE):=Zu
theorem Up(T:Txt K mg a):FnOk P w K mg base (CXe P w) 3 a.f_Book_soonest a.fd_Book_soonest ["self"] (spSoonest (clOf a)):=by
 have G_Rack_first_numbers:=Uq (P:=P) (w:=w) (base:=base) T;refine T.F_Book_soonest.okN SO (λvs H Q E h=>?_) (λcdv A' outer s H vs Q E hr h=>?_)
 ·obtain⟨H0,p,v,rfl,_⟩:=h;rfl
 ·obtain⟨H0,p,v,rfl,⟨A,sl,B,rfl,b,ok,e1,e2,e3,e4⟩,k⟩:=h;have hu:=YK hr;refine⟨_,(Zf (Zn (pe_minD rfl rfl T.b_min (Za (TB (te:=tDGet (tFld K (tVar 1) "ticks") (tVar 0)) (NB:=["number","self"]) (fv:=[none,some 0]) (jx:=0) rfl (Va rfl rfl (by decide+kernel)) (Ty (Yu (Zx (pv 0) rfl) T.cl_Rack T.m_Rack_first_numbers G_Rack_first_numbers (hr.mono (by decide)) T.B_Rack_first_numbers .nil ZB)) rfl rfl rfl (λ_ _ _=>VU) (λ_ _ _=>Zr hu (Zx (pv 1) rfl) (pv 0) (λ_ _=>rfl))) Ze)))),?_⟩;refine⟨_,rfl,_,_,_,_,_,rfl,b.book,T.cl_Book,T.n_Book_rack,rfl,_,_,_,rfl,b.rack,rfl,?_⟩;refine⟨A,sl,H0,B,v.S,v.n,B.now,get B.ticks,rfl,b,ok.geo,ok.rack,λH1 l out hl b1 hs hm hnil=>?_⟩;have hS:=ok.rack.pS;have hsz:out.length<=63:=by
   have q:=(YO hs).length_le_of_subset (l₂:=(List.range 63).map (λ(i:Nat)=>(i:Int))) λx hx=>by
    obtain⟨t,ht,_⟩:=(hm x).mp hx;obtain⟨z1,z2⟩:=ok.rack.dom x t ht;exact List.mem_map.mpr ⟨x.toNat,List.mem_range.mpr (by omega),by omega⟩
   simpa using q
  refine⟨_,rfl,⟨_,SqL.of (b1.same _ _ Zb)⟩,?_⟩;refine QF (K:=K) (a:=l) (xs:=out.map V.int) (λi ys Hi=>Hi=H1/\ys=(out.take i).map λx=>V.int ((get B.ticks x).getD 0)) ⟨rfl,rfl⟩ (λi ys Hi hi ⟨e,ey⟩=>⟨by rw[e];exact SqL.of (b1.same _ _ Zb),by rw[ey,List.length_map,List.length_take];exact Vd (by omega)⟩) ?_ ?_
  ·rintro i x ys Hi Q' hx ⟨rfl,rfl⟩ kq;obtain⟨y,hy,rfl⟩:∃y,out[i]?=some y/\x=V.int y:=by
    rw[List.getElem?_map] at hx;cases e:out[i]? with
    |none=>rw[e] at hx;cases hx
    |some y=>rw[e] at hx;exact⟨y,rfl,(Option.some.inj hx).symm⟩
   obtain⟨t,ht,_⟩:=(hm y).mp (List.mem_of_getElem? hy);have g:=b1.getT y;rw[ht] at g;refine⟨_,rfl,_,_,_,_,_,rfl,b1.book,T.cl_Book,T.n_Book_ticks,rfl,_,rfl,_,_,rfl,g,kq _ _ ⟨rfl,?_⟩⟩;rw[List.take_add_one,hy,List.map_append];congr 1
   show _=[V.int ((get B.ticks y).getD 0)];rw[ht];rfl
  ·rintro ys Hi ⟨rfl,rfl⟩ acc hacc;rw[List.length_map,List.take_length];refine⟨_,rfl,acc,out.map λx=>(get B.ticks x).getD 0,rfl,SqL.of (by rw[List.map_map];exact Zb),?_⟩;have hb:BookAt (clOf a) H0 (upd Hi acc (.lst (out.map λx=>V.int ((get B.ticks x).getD 0)))) (A.ad .book) v:=⟨A,sl,B,rfl,(b1.weak (Same.upd hl)).temp hacc,ok,e1,e2,e3,e4⟩;obtain⟨kn,ks⟩:=k _ hb;refine⟨λe=>kn λx=>?_,λm hm1 hm2=>?_⟩
   ·have e5:out=[]:=by simpa using e
    have tk:=ok.out.tick_of x;rw[hnil e5 x,e3] at tk;simpa using tk
   ·obtain⟨x,hx,ex⟩:=List.mem_map.mp hm1;obtain⟨t,ht,M⟩:=(hm x).mp hx;rw[ht] at ex;have ex':t=m:=ex;obtain⟨nm,sp,_,_,hw⟩:=ok.out.waits ht;rw[e3] at hw;refine ks m x _ hw ex' λk' al' hal=>?_;rw[←e3] at hal;obtain⟨_,_,ht'⟩:=alarm_some.mp hal;have hle:=M.least k' _ ht';rcases Int.lt_or_eq_of_le hle with z|z
    ·have:=st_lt hS (ok.rack.ahead x t ht) (ok.rack.ahead k' _ ht') z;have:=Tt hS v.n B.now al'.tick;omega
    ·have hk':k'∈out:=(hm k').mpr ⟨_,ht',by rw[←z];exact M⟩;have:=hm2 ((get B.ticks k').getD 0) (List.mem_map.mpr ⟨k',hk',rfl⟩);rw[ht'] at this;exact this
def TY(S n:Int):Prop:=(2<=S/\S<=64)/\1<=n/\n<=6
def RZ(Bad:Addr):Sp:=λvs H Q E=>∃(S n:Int),vs=[.int S,.int n]/\Lg S/\Lg n/\(¬TY S n->E (.ref Bad) none H)/\(TY S n->Q .non H)
theorem SM:FnScope ["slots","levels"] ["slots","levels"] (Zd YA):=Zu
theorem SR(T:Txt K mg a):FnOk P w K mg base (CXe P w) 1 a.f_check_wheels a.fd_check_wheels ["slots","levels"] (RZ a.C_BadWheels):=by
 refine T.F_check_wheels.okE SM (λvs H Q E h=>?_) (λcdv A' outer s H vs Q E hr h=>?_)
 ·obtain⟨S,n,rfl,_⟩:=h;rfl
 ·obtain⟨S,n,rfl,l1,l2,k0,k1⟩:=h;refine⟨_,(Zh (ZG (UY (Zq Sz (pv 0) (VF T.k_FEWEST_SLOTS) (Zz _)) (Ue (Zq op_gt (pv 0) (VF T.k_MOST_SLOTS) (Zz _)))).pt
    (Zf (Ve Sy rfl rfl T.c_BadWheels T.x_BadWheels (Za (VG (YX (Vg (VF T.k_FEWEST_SLOTS) (YX (Vg (VF T.k_MOST_SLOTS) (YX (Vg (pv 0) Uu))))))) Ze))) Zv)
   (Zf (ZG (UY (Zq Sz (pv 1) (VF T.k_FEWEST_LEVELS) (Zz _)) (Ue (Zq op_gt (pv 1) (VF T.k_MOST_LEVELS) (Zz _)))).pt
    (Zf (Ve Sy rfl rfl T.c_BadWheels T.x_BadWheels (Za (VG (YX (Vg (VF T.k_FEWEST_LEVELS) (YX (Vg (VF T.k_MOST_LEVELS) (YX (Vg (pv 1) Uu))))))) Ze))) Zv))),?_⟩
  have b2:Lg 2:=by unfold Lg;decide
  have b64:Lg 64:=by unfold Lg;decide
  have b1:Lg 1:=by unfold Lg;decide
  have b6:Lg 6:=by unfold Lg;decide
  have z1:∀y:Str,[V.str y].length<=sizeLine:=λy=>by show 1<=sizeLine;decide
  refine⟨_,rfl,_,_,rfl,rfl,_,rfl,ite2 (λc=>iteT ?_) (λc=>?_)⟩
  ·have c':S<2:=of_decide_eq_true c;exact⟨_,rfl,b2,_,rfl,b64,_,rfl,_,rfl,l1,λy=>⟨z1 y,k0 λz=>by have:=z.1.1;omega⟩⟩
  ·have c': ¬S<2:=λz=>c (decide_eq_true z);refine⟨_,rfl,_,_,rfl,rfl,_,rfl,ite2 (λd=>?_) (λd=>?_)⟩
   ·have d':64<S:=of_decide_eq_true d;exact⟨_,rfl,b2,_,rfl,b64,_,rfl,_,rfl,l1,λy=>⟨z1 y,k0 λz=>by have:=z.1.2;omega⟩⟩
   ·have d': ¬64<S:=λz=>d (decide_eq_true z);refine⟨_,rfl,_,_,rfl,rfl,_,rfl,ite2 (λe=>iteT ?_) (λe=>?_)⟩
    ·have e':n<1:=of_decide_eq_true e;exact⟨_,rfl,b1,_,rfl,b6,_,rfl,_,rfl,l2,λy=>⟨z1 y,k0 λz=>by have:=z.2.1;omega⟩⟩
    ·have e': ¬n<1:=λz=>e (decide_eq_true z);refine⟨_,rfl,_,_,rfl,rfl,_,rfl,ite2 (λg=>?_) (λg=>?_)⟩
     ·have g':6<n:=of_decide_eq_true g;exact⟨_,rfl,b1,_,rfl,b6,_,rfl,_,rfl,l2,λy=>⟨z1 y,k0 λz=>by have:=z.2.2;omega⟩⟩
     ·have g': ¬6<n:=λz=>g (decide_eq_true z);exact k1 ⟨⟨by omega,by omega⟩,by omega,by omega⟩
def spSlotSpans:Sp:=λvs H Q _=>∃(S:Int) (n:Nat),vs=[.int S,.int n]/\2<=S/\S<=64/\1<=n/\n<=6/\∀(H':Hp) (l:Addr),H l=none->Same H H'->H' l=some (.lst ((ZJ S n).map V.int))->Q (.ref l) H'
theorem sc_slot_spans:FnScope ["slots","levels","spans","level"] ["slots","levels"] (Zd Xc):=Zu
theorem Rq{S:Int}{n i:Nat}(h:i<n):(ZJ S n)[i]?=some (S ^ i):=by
 unfold ZJ;rw[List.getElem?_map,List.getElem?_range h];rfl
theorem Ro{S:Int}{n:Nat}:ZJ S (n+1)=ZJ S n++[S ^ n]:=by
 unfold ZJ;rw[List.range_succ,List.map_append];rfl
theorem Qc(T:Txt K mg a):FnOk P w K mg base (CXe P w) 1 a.f_slot_spans a.fd_slot_spans ["slots","levels"] spSlotSpans:=by
 refine T.F_slot_spans.okN sc_slot_spans (λvs H Q E h=>?_) (λcdv A' outer s H vs Q E hr h=>?_)
 ·obtain⟨S,n,rfl,_⟩:=h;rfl
 ·obtain⟨S,n,rfl,h1,h2,h3,h4,k⟩:=h;refine⟨_,(Zh (Zw (i:=2) sc_slot_spans.nd rfl (Or.inl rfl) (YN (Za Zg Ze)))
   (Zh (Vx PassesOwn.never rfl (pi_range2 rfl T.b_range (Za Zg (Za (pv 1) Ze))) (Yi (i:=3) sc_slot_spans.nd rfl (Or.inl rfl)) (Zf (ZH (VW F.plainAttrs_list F.slot_list_append F.type_list_append Ua (pv 2) (Za (Zp Vh (ZC Ye (pv 2) (Zp Vy (pv 3) Zg) (λ_ _=>rfl)) (pv 0)) Ze)))))
   (Zf (Zn (pv 2))))),?_⟩
  refine⟨by decide,λl hl=>?_⟩;refine⟨_,rfl,1,n,rfl,⟨by decide,by decide,by omega,by omega⟩,?_⟩;refine UU (lo:=1) (n:=((n:Int)-1).toNat) (λi σ Hi=>∃x,σ=[some (.int S),some (.int n),some (.ref l),x]/\Same H Hi/\Hi l=some (.lst ((ZJ S (i+1)).map V.int))) ⟨_,rfl,Same.upd hl,?_⟩ ?_ ?_
  ·rw[Zb];simp[ZJ]
  ·rintro i σ Hi hi ⟨x,rfl,s1,hi1⟩;obtain⟨p1,p2⟩:=Vs h1 h2 (i:=i) (by omega);refine⟨_,rfl,.inl ⟨rfl,_,SqL.of hi1⟩,_,rfl,_,rfl,_,_,rfl,rfl,_,_,_,.int (S ^ i),rfl,rfl,SqL.of hi1,?_,?_⟩
   ·rw[show (1+(i:Int))-1=((i:Nat):Int) by omega];exact atI_nat (by rw[List.getElem?_map,Rq (by omega)];rfl)
   ·refine⟨_,rfl,_,_,rfl,rfl,.inl ⟨by omega,Int.lt_of_le_of_lt p2 (by decide)⟩,?_⟩;refine⟨_,_,_,rfl,rfl,hi1,Vd (by rw[List.length_map];unfold ZJ;rw[List.length_map,List.length_range];omega),?_⟩;refine⟨_,rfl,λb o e=>?_,?_⟩
    ·rw[Zc (Zt e hl)];exact s1 b o e
    ·rw[Zb,Ro (n:=i+1),List.map_append,Int.pow_succ];rfl
  ·rintro σ Hi ⟨x,rfl,s1,hi1⟩;rw[show ((n:Int)-1).toNat+1=n by omega] at hi1;exact⟨_,rfl,k Hi l hl s1 hi1⟩
def QS(c:Cl)(Bad:Addr):Sp:=λvs H Q E=>∃(p dx:Addr) (S n:Int),vs=[.ref p,.int S,.int n]/\Lg S/\Lg n/\H p=some (.ins c.Wheels dx [])/\(¬TY S n->E (.ref Bad) none H)/\
 (TY S n->∀(H':Hp) (tp:Addr),H tp=none->H' p=some (.ins c.Wheels dx (Xm S tp))->H' tp=some (.tup ((ZJ S n.toNat).map V.int))->(∀b o,H b=some o->b≠p->H' b=some o)->Q .non H')
theorem Rw:FnScope ["self","slots","levels"] ["self","slots","levels"] (Zd Yc):=Zu
theorem RG(T:Txt K mg a):FnOk P w K mg base (CXe P w) 2 a.f_Wheels___init__ a.fd_Wheels___init__ ["self","slots","levels"] (QS (clOf a) a.C_BadWheels):=by
 have G_check_wheels:=SR (P:=P) (w:=w) (base:=base) T;have G_slot_spans:=Qc (P:=P) (w:=w) (base:=base) T;refine T.F_Wheels___init__.okE Rw (λvs H Q E h=>?_) (λcdv A' outer s H vs Q E hr h=>?_)
 ·obtain⟨p,dx,S,n,rfl,_⟩:=h;rfl
 ·obtain⟨p,dx,S,n,rfl,l1,l2,hp,k0,k1⟩:=h;refine⟨_,(Zh (ZH (ZA G_check_wheels (hr.mono (by decide)) rfl T.f_check_wheels T.kp_check_wheels T.B_check_wheels .nil Uv (Za (pv 1) (Za (pv 2) Ze))))
   (Zh (Xa (pv 0) (pv 1) rfl)
   (Zf (Xa (pv 0) (UR Qh rfl T.b_tuple PyProof.Rows.boot_tuple (Za (ZA G_slot_spans (hr.mono (by decide)) rfl T.f_slot_spans T.kp_slot_spans T.B_slot_spans .nil ZB (Za (pv 1) (Za (pv 2) Ze))) Ze)) rfl)))),?_⟩
  refine⟨_,rfl,_,rfl,S,n,rfl,l1,l2,k0,λg=>?_⟩;obtain⟨⟨g1,g2⟩,g3,g4⟩:=id g;refine⟨_,rfl,_,rfl,p,_,dx,[],rfl,hp,T.cl_Wheels,T.n_Wheels_slots,(by show 0<1000;decide),?_⟩;have en:((n.toNat:Nat):Int)=n:=by omega
  refine⟨_,rfl,_,rfl,S,n.toNat,(by rw[en];rfl),g1,g2,by omega,by omega,λH1 l hl s1 hl1=>?_⟩;have npl:p≠l:=λz=>by rw[←z,Zb] at hl;cases hl
  have hp1:=s1 p _ Zb;refine⟨_,_,rfl,.inl ⟨SqL.of hl1,λtp htp=>?_⟩⟩;have htp0:H tp=none:=by
   have q:(upd H p (.ins a.C_Wheels dx (putF "slots" (.int S) []))) tp=none:=s1.free htp;rw[Zc (λz=>by rw[z,Zb] at q;cases q)] at q;exact q
  have npt:p≠tp:=λz=>by rw[←z,hp1] at htp;cases htp
  refine⟨_,rfl,p,_,dx,_,rfl,(by rw[Zc npt];exact hp1),T.cl_Wheels,T.n_Wheels_spans,(by show 1<1000;decide),?_⟩;refine k1 g _ tp htp0 Zb ?_ λb o e hb=>?_
  ·rw[Zc npt.symm,Zb]
  ·rw[Zc hb,Zc (λz=>by rw[z,htp0] at e;cases e)];exact s1 b o (by rw[Zc hb];exact e)
end Tk
end
section
namespace Tb
open PySem L2 Mir Rk
structure Pt(ad:Lb->Addr)(H0 H:Hp)(ct:Lb->Option HO):Prop where
 same:Same H0 H
 free:∀l o,ct l=some o->H0 (ad l)=none
 here:∀l o,ct l=some o->H (ad l)=some o
 inj:∀l l' o o',ct l=some o->ct l'=some o'->ad l=ad l'->l=l'
noncomputable def lput{α:Type}(f:Lb->α)(l:Lb)(x:α):Lb->α:=λl'=>if l'=l then x else f l'
theorem Zm{α:Type}{f:Lb->α}{l:Lb}{x:α}:lput f l x l=x:=by simp[lput]
theorem Zi{α:Type}{f:Lb->α}{l l':Lb}{x:α}(h:l'≠l):lput f l x l'=f l':=by simp[lput,h]
section
variable {ad:Lb->Addr}{H0 H H':Hp}{ct:Lb->Option HO}
theorem Pt.up(p:Pt ad H0 H ct)(s:Same H H'):Pt ad H0 H' ct:=⟨p.same.trans s,p.free,λl o h=>s _ _ (p.here l o h),p.inj⟩
theorem Pt.add(p:Pt ad H0 H ct){l:Lb}{x:Addr}{o:HO}(hl:ct l=none)(hx:H x=none)(s:Same H H')(ho:H' x=some o):Pt (lput ad l x) H0 H' (lput ct l (some o)):=by
 have ne:∀l' u,ct l'=some u->l'≠l:=λl' u h z=>by rw[z,hl] at h;cases h
 have nx:∀l' u,ct l'=some u->ad l'≠x:=λl' u h z=>by have:=p.here l' u h;rw[z,hx] at this;cases this
 refine⟨p.same.trans s,λl' u h=>?_,λl' u h=>?_,λl1 l2 o1 o2 h1 h2 z=>?_⟩
 ·by_cases e:l'=l
  ·subst e;rw[Zm];exact p.same.free hx
  ·rw[Zi e] at h ⊢;exact p.free l' u h
 ·by_cases e:l'=l
  ·subst e;rw[Zm] at h ⊢;cases h;exact ho
  ·rw[Zi e] at h ⊢;exact s _ _ (p.here l' u h)
 ·by_cases e1:l1=l
  ·by_cases e2:l2=l
   ·rw[e1,e2]
   ·subst e1;rw[Zi e2] at h2;rw[Zm,Zi e2] at z;exact(nx l2 o2 h2 z.symm).elim
  ·rw[Zi e1] at h1 z;by_cases e2:l2=l
   ·subst e2;rw[Zm] at z;exact(nx l1 o1 h1 z).elim
   ·rw[Zi e2] at h2 z;exact p.inj l1 l2 o1 o2 h1 h2 z
theorem Pt.write(p:Pt ad H0 H ct){l:Lb}{o o':HO}(hl:ct l=some o):Pt ad H0 (upd H (ad l) o') (lput ct l (some o')):=by
 have back:∀l' u,lput ct l (some o') l'=some u->∃v,ct l'=some v:=λl' u h=>by
  by_cases e:l'=l
  ·exact⟨o,e▸hl⟩
  ·rw[Zi e] at h;exact⟨u,h⟩
 refine⟨λx u h=>?_,λl' u h=>?_,λl' u h=>?_,λl1 l2 o1 o2 h1 h2 z=>?_⟩
 ·have:=p.free l o hl;rw[Zc (λz=>by rw[z,this] at h;cases h)];exact p.same x u h
 ·obtain⟨v,hv⟩:=back l' u h;exact p.free l' v hv
 ·by_cases e:l'=l
  ·subst e;rw[Zm] at h;cases h;exact Zb
  ·rw[Zi e] at h;rw[Zc (λz=>e (p.inj l' l u o h hl z))];exact p.here l' u h
 ·obtain⟨v1,hv1⟩:=back l1 o1 h1;obtain⟨v2,hv2⟩:=back l2 o2 h2;exact p.inj l1 l2 v1 v2 hv1 hv2 z
theorem Pt.own{x:Addr}{o:HO}(s:Same H0 H)(h0:H0 x=none)(hx:H x=some o)(l:Lb):Pt (λ_=>x) H0 H (lput (λ_=>none) l (some o)):=by
 have at_:∀l' u,lput (λ_=>none) l (some o) l'=some u->l'=l/\u=o:=λl' u h=>by
  by_cases e:l'=l
  ·subst e;rw[Zm] at h;cases h;exact⟨rfl,rfl⟩
  ·rw[Zi e] at h;cases h
 refine⟨s,λ_ _ _=>h0,λl' u h=>?_,λl1 l2 o1 o2 h1 h2 _=>?_⟩
 ·obtain⟨_,rfl⟩:=at_ l' u h;exact hx
 ·rw[(at_ l1 o1 h1).1,(at_ l2 o2 h2).1]
theorem Pt.adopt{x:Addr}{o:HO}(p:Pt ad (upd H0 x o) H ct){l:Lb}(h0:H0 x=none)(hl:ct l=none):Pt (lput ad l x) H0 H (lput ct l (some o)):=by
 have nx:∀l' u,ct l'=some u->ad l'≠x:=λl' u h z=>by have:=p.free l' u h;rw[z,Zb] at this;cases this
 refine⟨(Same.upd h0).trans p.same,λl' u h=>?_,λl' u h=>?_,λl1 l2 o1 o2 h1 h2 z=>?_⟩
 ·by_cases e:l'=l
  ·subst e;rw[Zm];exact h0
  ·rw[Zi e] at h ⊢;have:=p.free l' u h;rw[Zc (nx l' u h)] at this;exact this
 ·by_cases e:l'=l
  ·subst e;rw[Zm] at h ⊢;cases h;exact p.same _ _ Zb
  ·rw[Zi e] at h ⊢;exact p.here l' u h
 ·by_cases e1:l1=l
  ·by_cases e2:l2=l
   ·rw[e1,e2]
   ·subst e1;rw[Zi e2] at h2;rw[Zm,Zi e2] at z;exact(nx l2 o2 h2 z.symm).elim
  ·rw[Zi e1] at h1 z;by_cases e2:l2=l
   ·subst e2;rw[Zm] at z;exact(nx l1 o1 h1 z).elim
   ·rw[Zi e2] at h2 z;exact p.inj l1 l2 o1 o2 h1 h2 z
theorem Pt.congr{ct':Lb->Option HO}(p:Pt ad H0 H ct)(h:∀l,ct l=ct' l):Pt ad H0 H ct':=by
 have:ct=ct':=funext h;exact this▸p
theorem Pt.side(p:Pt ad H0 H ct){x:Addr}{o:HO}(h0:H0 x=none)(hx:∀l u,ct l=some u->ad l≠x):Pt ad H0 (upd H x o) ct:=
 ⟨λy u h=>by rw[Zc (Zt h h0)];exact p.same y u h,p.free,λl u h=>by rw[Zc (hx l u h)];exact p.here l u h,p.inj⟩
noncomputable def ctRk(c:Cl)(ad dx:Lb->Addr)(F:List (Str×V))(S:Int)(sp:List Int)(m:Nat)(rl:Bool):Lb->Option HO
 | .rack=>some (.ins c.Rack (dx .rack) F)
 | .wheels=>some (.ins c.Wheels (dx .wheels) (Xm S (ad .spans)))
 | .spans=>some (.tup (sp.map V.int))
 | .row i=>if i<m then some (.ins c.Row (dx (.row i)) (rowF (S ^ i) (ad (.filled i)) (ad (.rising i)))) else none
 | .filled i=>if i<m then some (.dK []) else none
 | .rising i=>if i<m then some (.lst []) else none
 | .rows=>if rl=true then some (.lst ((List.range m).map λi=>V.ref (ad (.row i)))) else none
 |_=>none
theorem Pt.addRow{c:Cl}{dx:Lb->Addr}{F:List (Str×V)}{S:Int}{sp:List Int}{m:Nat}(p:Pt ad H0 H (ctRk c ad dx F S sp m false)){x d df lr:Addr}(hx:H x=none)(hd:d≠x)(hdf:H df=none)(hlr:H lr=none)(n1:df≠x)(n2:lr≠x)(n3:df≠lr)
 (s:Same H H')(h1:H' x=some (.ins c.Row d (rowF (S ^ m) df lr)))(h2:H' df=some (.dK []))(h3:H' lr=some (.lst [])):
  Pt (lput (lput (lput ad (.row m) x) (.filled m) df) (.rising m) lr) H0 H' (ctRk c (lput (lput (lput ad (.row m) x) (.filled m) df) (.rising m) lr) (lput dx (.row m) d) F S sp (m+1) false):=by
 have sa:Same H (upd H x (.ins c.Row d (rowF (S ^ m) df lr))):=Same.upd hx;have hdf1:(upd H x (.ins c.Row d (rowF (S ^ m) df lr))) df=none:=by rw[Zc n1];exact hdf
 have sb:=Same.upd (o:=.dK []) hdf1;have hlr1:(upd (upd H x (.ins c.Row d (rowF (S ^ m) df lr))) df (.dK [])) lr=none:=by rw[Zc n3.symm,Zc n2];exact hlr
 have sc:Same (upd (upd H x (.ins c.Row d (rowF (S ^ m) df lr))) df (.dK [])) H':=λy u h=>by
  by_cases e1:y=df
  ·subst e1;rw[Zb] at h;cases h;exact h2
  ·rw[Zc e1] at h;by_cases e2:y=x
   ·subst e2;rw[Zb] at h;cases h;exact h1
   ·rw[Zc e2] at h;exact s y u h
 have q1:=p.add (l:=.row m) (x:=x) (by show (if m<m then _ else _)=_;rw[if_neg (Nat.lt_irrefl _)]) hx sa Zb;have q2:=q1.add (l:=.filled m) (x:=df) (by rw[Zi (by intro z;cases z)];show (if m<m then _ else _)=_;rw[if_neg (Nat.lt_irrefl _)]) hdf1 sb Zb;have q3:=q2.add (l:=.rising m) (x:=lr) (by rw[Zi (by intro z;cases z),Zi (by intro z;cases z)];show (if m<m then _ else _)=_;rw[if_neg (Nat.lt_irrefl _)]) hlr1 sc h3;refine q3.congr λl=>?_;cases l with
 |row i=>
  rw[Zi (by intro z;cases z),Zi (by intro z;cases z)];by_cases e:i=m
  ·subst e;rw[Zm];show _=if i<i+1 then _ else _
   rw[if_pos (Nat.lt_succ_self _),Zm,Zi (by intro z;cases z),Zm,Zm]
  ·have e1:Lb.row i≠.row m:=λz=>e (by injection z);rw[Zi e1];show (if i<m then _ else _)=if i<m+1 then _ else _
   by_cases hi:i<m
   ·have f1:Lb.filled i≠.filled m:=λz=>e (by injection z);have f2:Lb.rising i≠.rising m:=λz=>e (by injection z);rw[if_pos hi,if_pos (Nat.lt_succ_of_lt hi),Zi e1,Zi (by intro z;cases z),Zi f1,Zi (by intro z;cases z),Zi f2,Zi (by intro z;cases z),Zi (by intro z;cases z)]
   ·rw[if_neg hi,if_neg (by omega)]
 |filled i=>
  rw[Zi (by intro z;cases z)];by_cases e:i=m
  ·subst e;rw[Zm];show _=if i<i+1 then _ else _
   rw[if_pos (Nat.lt_succ_self _)]
  ·have e1:Lb.filled i≠.filled m:=λz=>e (by injection z);rw[Zi e1,Zi (by intro z;cases z)];show (if i<m then _ else _)=if i<m+1 then _ else _
   by_cases hi:i<m
   ·rw[if_pos hi,if_pos (Nat.lt_succ_of_lt hi)]
   ·rw[if_neg hi,if_neg (by omega)]
 |rising i=>
  by_cases e:i=m
  ·subst e;rw[Zm];show _=if i<i+1 then _ else _
   rw[if_pos (Nat.lt_succ_self _)]
  ·have e1:Lb.rising i≠.rising m:=λz=>e (by injection z);rw[Zi e1,Zi (by intro z;cases z),Zi (by intro z;cases z)];show (if i<m then _ else _)=if i<m+1 then _ else _
   by_cases hi:i<m
   ·rw[if_pos hi,if_pos (Nat.lt_succ_of_lt hi)]
   ·rw[if_neg hi,if_neg (by omega)]
 |rack=>
  rw[Zi (by intro z;cases z),Zi (by intro z;cases z),Zi (by intro z;cases z)];show some (HO.ins c.Rack (dx .rack) F)=some (HO.ins c.Rack (lput dx (.row m) d .rack) F);rw[Zi (by intro z;cases z)]
 |wheels=>
  rw[Zi (by intro z;cases z),Zi (by intro z;cases z),Zi (by intro z;cases z)];show some (HO.ins c.Wheels (dx .wheels) (Xm S (ad .spans)))=some (HO.ins c.Wheels (lput dx (.row m) d .wheels) (Xm S (lput (lput (lput ad (.row m) x) (.filled m) df) (.rising m) lr .spans)));rw[Zi (by intro z;cases z),Zi (by intro z;cases z),Zi (by intro z;cases z),Zi (by intro z;cases z)]
 |spans=>rfl
 |rows=>rfl
 |book=>rfl
 |names=>rfl
 |steps=>rfl
 |ticks=>rfl
 |kept=>rfl
 |slot i s=>rfl
end
end Tb
end
section
namespace Tk
open PySem L2 Mir Rk Tb
open PyProof.Rows (boot_sorted boot_min boot_enumerate boot_isinstance boot_sum boot_max)
variable {P:Program}{w:World}{K:W.Frag}{mg:Str->Option Value}{base:Heap}{a:Ad}
def spRackInit(c:Cl)(Bad:Addr):Sp:=λvs H Q E=>∃(H0:Hp) (p dxp:Addr) (S n:Int),vs=[.ref p,.int S,.int n]/\Lg S/\Lg n/\Same H0 H/\H0 p=none/\H p=some (.ins c.Rack dxp [])/\(¬TY S n->∀H',Same H0 H'->E (.ref Bad) none H')/\
 (TY S n->∀(H':Hp) (ad dx:Lb->Addr),ad .rack=p->Pt ad H0 H' (ctRk c ad dx (Ry (ad .wheels) (ad .rows)) S (ZJ S n.toNat) (n.toNat+1) true)->Q .non H')
theorem sc_Rack_init:FnScope ["self","slots","levels","spans"] ["self","slots","levels"] (Zd Ys):=Zu
theorem Pw(T:Txt K mg a):FnOk P w K mg base (CXe P w) 4 a.f_Rack___init__ a.fd_Rack___init__ ["self","slots","levels"] (spRackInit (clOf a) a.C_BadWheels):=by
 have G_Wheels:=RG (P:=P) (w:=w) (base:=base) T;have G_Row:=ok_Row_init (P:=P) (w:=w) (base:=base) T;refine T.F_Rack___init__.okE sc_Rack_init (λvs H Q E h=>?_) (λcdv A' outer s H vs Q E hr h=>?_)
 ·obtain⟨H0,p,dxp,S,n,rfl,_⟩:=h;rfl
 ·obtain⟨H0,p,dxp,S,n,rfl,l1,l2,s0,h0,hp,k0,k1⟩:=h;refine⟨_,(Zh (Xa (pv 0) (SY T.M_Wheels G_Wheels (hr.mono (by decide)) rfl T.c_Wheels T.B_Wheels___init__ .nil Uv (Za (pv 1) (Za (pv 2) Ze))) rfl)
   (Zh (Zw (i:=3) sc_Rack_init.nd rfl (Or.inl rfl) (UR PH rfl T.b_list PyProof.Rows.boot_list (Za (Zx (Zx (pv 0) rfl) rfl) Ze)))
   (Zh (ZH (VW F.plainAttrs_list F.slot_list_append F.type_list_append Ua (pv 3) (Za (Zp Vh (ZC Ye (pv 3) (Zp Vy (pv 2) Zg) (λ_ _=>rfl)) (pv 1)) Ze)))
   (Zf (Xa (pv 0) (TB (te:=tMake a.C_Row (Ql (clOf a)) [] E0 (tCons (tVar 0) tNil)) (NB:=["span"]) (fv:=[none]) (jx:=0) rfl (compOk_fnE rfl rfl (by decide+kernel)) (Ty (pv 3)) rfl rfl rfl (λ_ _ _=>VU) (λ_ _ _=>SY T.M_Row G_Row (hr.mono (by decide)) rfl T.c_Row T.B_Row___init__ .nil ZB (Za (pv 0) Ze))) rfl))))),?_⟩
  refine⟨_,rfl,_,rfl,λx dx' hx hdx nx=>?_⟩;have sA:Same H (upd (upd H dx' (.own x)) x (.ins a.C_Wheels dx' [])):=λb o e=>by
   rw[Zc (Zt e hx),Zc (Zt e hdx)];exact e
  refine⟨x,dx',S,n,rfl,l1,l2,Zb,λhb=>k0 hb _ (s0.trans sA),λg H1 tp htp e1 e2 e3=>⟨rfl,?_⟩⟩;obtain⟨⟨g1,g2⟩,g3,g4⟩:=id g;have s1:Same H H1:=λb o e=>e3 b o (sA b o e) (Zt e hx);have htpx:tp≠x:=λz=>by rw[z,Zb] at htp;cases htp
  have htp0:H tp=none:=sA.free htp;have en:((n.toNat:Nat):Int)=n:=by omega
  have P0:=Pt.own s0 h0 hp .rack;have P1:=P0.add (l:=.wheels) (x:=x) (o:=.ins a.C_Wheels dx' (Xm S tp)) (Zi (by intro z;cases z)) hx (Same.upd hx) Zb;have P2:=P1.add (H':=H1) (l:=.spans) (x:=tp) (o:=.tup ((ZJ S n.toNat).map V.int)) (by rw[Zi (by intro z;cases z),Zi (by intro z;cases z)]) (by rw[Zc htpx];exact htp0) (λy u h=>by
   by_cases e:y=x
   ·subst e;rw[Zb] at h;cases h;exact e1
   ·rw[Zc e] at h;exact s1 y u h) e2
  have hp1:H1 p=some (.ins a.C_Rack dxp []):=s1 _ _ hp;refine⟨_,rfl,p,_,dxp,_,rfl,hp1,T.cl_Rack,T.n_Rack_wheels,(by show 0<1000;decide),?_⟩;have P3:=P2.write (l:=.rack) (o:=.ins a.C_Rack dxp []) (o':=.ins a.C_Rack dxp [("wheels",.ref x)]) (by rw[Zi (by intro z;cases z),Zi (by intro z;cases z),Zm]);have P3':Pt (lput (lput (λ_=>p) .wheels x) .spans tp) H0 (upd H1 p (.ins a.C_Rack dxp [("wheels",.ref x)])) (ctRk (clOf a) (lput (lput (λ_=>p) .wheels x) .spans tp) (lput (λ_=>dx') .rack dxp) [("wheels",.ref x)] S (ZJ S n.toNat) 0 false):=by
   refine P3.congr λl=>?_;cases l with
   |rack=>rfl
   |wheels=>rfl
   |spans=>rfl
   |row i=>rfl
   |filled i=>rfl
   |rising i=>rfl
   |rows=>rfl
   |book=>rfl
   |names=>rfl
   |steps=>rfl
   |ticks=>rfl
   |kept=>rfl
   |slot i s=>rfl
  have hpR:=P3'.here .rack _ rfl;have hpW:=P3'.here .wheels _ rfl;have hpS:=P3'.here .spans _ rfl;refine⟨_,rfl,_,_,_,_,_,rfl,hpR,T.cl_Rack,T.n_Rack_wheels,rfl,_,_,_,_,_,rfl,hpW,T.cl_Wheels,T.n_Wheels_spans,rfl,_,_,rfl,.inr (SqT.of hpS),λls hls=>?_⟩;have P4:=P3'.up (Same.upd (o:=.lst ((ZJ S n.toNat).map V.int)) hls);have hn0:∀l u,ctRk (clOf a) (lput (lput (λ_=>p) .wheels x) .spans tp) (lput (λ_=>dx') .rack dxp) [("wheels",.ref x)] S (ZJ S n.toNat) 0 false l=some u->(lput (lput (λ_=>p) .wheels x) .spans tp) l≠ls:=λl u h z=>by
   have q:=P3'.here l u h;have hls':upd H1 p (HO.ins a.C_Rack dxp [("wheels",.ref x)]) ls=none:=hls;rw[z,hls'] at q;cases q
  obtain⟨p1,p2⟩:=Vs g1 g2 (i:=n.toNat-1) (by omega);refine⟨_,rfl,.inl ⟨rfl,_,SqL.of Zb⟩,_,rfl,_,rfl,_,_,rfl,rfl,_,_,_,.int (S ^ (n.toNat-1)),rfl,rfl,SqL.of Zb,?_,_,rfl,_,_,rfl,rfl,.inl ⟨by omega,Int.lt_of_le_of_lt p2 (by decide)⟩,?_⟩
  ·rw[show n-1=((n.toNat-1:Nat):Int) by omega];exact atI_nat (by rw[List.getElem?_map,Rq (by omega)];rfl)
  ·refine⟨_,_,_,rfl,rfl,Zb,Vd (by rw[List.length_map];unfold ZJ;rw[List.length_map,List.length_range];omega),?_⟩;have eL:(ZJ S n.toNat).map V.int++[V.int (S ^ (n.toNat-1) * S)]=(ZJ S (n.toNat+1)).map V.int:=by
    rw[Ro,List.map_append,←Int.pow_succ,show (n.toNat-1).succ=n.toNat by omega];rfl
   rw[show (λi j=>V.int (i * j)) (S ^ (n.toNat-1)) S=V.int (S ^ (n.toNat-1) * S) from rfl,eL];have hls0:H0 ls=none:=P3'.same.free hls;have P5:=P4.side (x:=ls) (o:=.lst ((ZJ S (n.toNat+1)).map V.int)) hls0 hn0;have lenS:((ZJ S (n.toNat+1)).map V.int).length=n.toNat+1:=by rw[List.length_map];unfold ZJ;rw[List.length_map,List.length_range]
   refine⟨_,rfl,_,rfl,⟨_,SqL.of Zb⟩,?_⟩;refine QF (K:=K) (a:=ls) (xs:=(ZJ S (n.toNat+1)).map V.int) (λi ys Hi=>∃ad dx,ad .rack=p/\ad .wheels=x/\Pt ad H0 Hi (ctRk (clOf a) ad dx [("wheels",.ref x)] S (ZJ S n.toNat) i false)/\ys=(List.range i).map (λj=>V.ref (ad (.row j)))/\Hi ls=some (.lst ((ZJ S (n.toNat+1)).map V.int)))
    ⟨_,_,rfl,rfl,P5,rfl,Zb⟩ (λi ys Hi hi ⟨ad,dx,_,_,_,ey,hl⟩=>⟨SqL.of hl,by rw[ey,List.length_map,List.length_range];exact Vd (by omega)⟩) ?_ ?_
   ·rintro i v ys Hi Q' hv ⟨ad,dx,ea1,ea2,Pi,rfl,hl⟩ kq;have hi:i<n.toNat+1:=by have:=(List.getElem?_eq_some_iff.mp hv).1;omega
    have ev:v=V.int (S ^ i):=by
     rw[List.getElem?_map,Rq hi] at hv;exact(Option.some.inj hv).symm
    subst ev;refine⟨_,rfl,λxr dr hxr hdr nr=>⟨xr,dr,S ^ i,rfl,Zb,λdf lr H2 hdf hlr nfl f1 f2 f3 f4=>⟨rfl,kq _ _ ?_⟩⟩⟩;have sB:Same Hi (upd (upd Hi dr (.own xr)) xr (.ins a.C_Row dr [])):=λb o e=>by
     rw[Zc (Zt e hxr),Zc (Zt e hdr)];exact e
    have s2:Same Hi H2:=λb o e=>f4 b o (sB b o e) (Zt e hxr);have ndf:df≠xr:=λz=>by rw[z,Zb] at hdf;cases hdf
    have nlr:lr≠xr:=λz=>by rw[z,Zb] at hlr;cases hlr
    have P6:=Pi.addRow hxr nr (sB.free hdf) (sB.free hlr) ndf nlr nfl s2 f1 f2 f3;refine⟨_,_,?_,?_,P6,?_,s2 _ _ hl⟩
    ·rw[Zi (by intro z;cases z),Zi (by intro z;cases z),Zi (by intro z;cases z)];exact ea1
    ·rw[Zi (by intro z;cases z),Zi (by intro z;cases z),Zi (by intro z;cases z)];exact ea2
    ·rw[List.range_succ,List.map_append];congr 1
     ·apply List.map_congr_left
      intro j hj;have hj':=List.mem_range.mp hj;have e1:Lb.row j≠.row i:=λz=>by injection z with z;omega
      rw[Zi (by intro z;cases z),Zi (by intro z;cases z),Zi e1]
     ·show [V.ref xr]=[V.ref _];rw[Zi (by intro z;cases z),Zi (by intro z;cases z),Zm]
   ·rintro ys Hi ⟨ad,dx,ea1,ea2,Pi,rfl,hl⟩ acc hacc;rw[lenS] at Pi ⊢;have P7:=Pi.add (l:=.rows) (x:=acc) (o:=.lst ((List.range (n.toNat+1)).map (λj=>V.ref (ad (.row j))))) rfl hacc (Same.upd hacc) Zb;have hr7:=P7.here .rack _ (by rw[Zi (by intro z;cases z)];rfl);rw[Zi (by intro z;cases z),ea1] at hr7;refine⟨_,rfl,p,_,_,_,rfl,hr7,T.cl_Rack,T.n_Rack_rows,(by show 1<1000;decide),?_⟩;have P8:=P7.write (l:=.rack) (o':=.ins a.C_Rack (dx .rack) (Ry x acc)) (by rw[Zi (by intro z;cases z)];rfl);refine k1 g _ (lput ad .rows acc) dx (by rw[Zi (by intro z;cases z)];exact ea1) ?_;rw[Zi (by intro z;cases z),ea1] at P8;refine P8.congr λl=>?_;cases l with
    |rack=>
     rw[Zm];show _=some (HO.ins a.C_Rack (dx .rack) (Ry (lput ad .rows acc .wheels) (lput ad .rows acc .rows)));rw[Zi (by intro z;cases z),Zm,ea2]
    |wheels=>
     rw[Zi (by intro z;cases z),Zi (by intro z;cases z)];show some (HO.ins a.C_Wheels (dx .wheels) (Xm S (ad .spans)))=some (HO.ins a.C_Wheels (dx .wheels) (Xm S (lput ad .rows acc .spans)));rw[Zi (by intro z;cases z)]
    |spans=>rfl
    |row i=>
     rw[Zi (by intro z;cases z),Zi (by intro z;cases z)];show (if i<_ then _ else _)=if i<_ then some (HO.ins a.C_Row (dx (.row i)) (rowF (S ^ i) (lput ad .rows acc (.filled i)) (lput ad .rows acc (.rising i)))) else none
     rw[Zi (by intro z;cases z),Zi (by intro z;cases z)]
    |filled i=>rfl
    |rising i=>rfl
    |rows=>
     rw[Zi (by intro z;cases z),Zm];show _=some (HO.lst ((List.range (n.toNat+1)).map λi=>V.ref (lput ad .rows acc (.row i))));congr 2
    |book=>rfl
    |names=>rfl
    |steps=>rfl
    |ticks=>rfl
    |kept=>rfl
    |slot i s=>rfl
noncomputable def newB(S:Int)(n:Nat):BkS:=⟨S,ZJ S n,(List.range (n+1)).map λi=>⟨S ^ i,[],[]⟩,0,0,[],[],[],[]⟩
theorem VZ{S:Int}{n i:Nat}:(newB S n).rows[i]?=if i<n+1 then some ⟨S ^ i,[],[]⟩ else none:=by
 show ((List.range (n+1)).map λi=>(⟨S ^ i,[],[]⟩:RowS))[i]?=_;rw[List.getElem?_map];by_cases h:i<n+1
 ·rw[List.getElem?_range h,if_pos h];rfl
 ·rw[if_neg h,List.getElem?_eq_none (by rw[List.length_range];omega)];rfl
theorem newB_ok{S:Int}{n:Nat}(h1:2<=S)(h2:S<=64)(h3:1<=n)(h4:n<=6):BOK S n (newB S n) where
 geo:=⟨h1,h2,h3,h4,rfl,rfl,by show ((List.range (n+1)).map _).length=_;rw[List.length_map,List.length_range]⟩
 rack:=by
  have at_:∀(i:Nat) r,(newB S n).rows[i]?=some r->r=⟨S ^ i,[],[]⟩:=λi r e=>by
   rw[VZ] at e;by_cases h:i<n+1
   ·rw[if_pos h] at e;exact(Option.some.inj e).symm
   ·rw[if_neg h] at e;cases e
  refine⟨h1,by show ((List.range (n+1)).map _).length=_;rw[List.length_map,List.length_range],λi r e=>by rw[at_ i r e],λi r e=>?_,(λk t e=>by cases e),(λk t e=>by cases e)⟩;rw[at_ i r e];refine⟨Rk.pow_pos (by omega) i,List.nodup_nil,List.Pairwise.nil,(λs=>⟨(λh=>by simp at h),(λh=>by cases h)⟩),(λs ns h=>by cases h),(λs ns h=>by cases h),(λm s=>⟨(λ⟨ns,h,_⟩=>by cases h),(λ⟨t,h,_⟩=>by cases h)⟩)⟩
 out:=⟨List.nodup_nil,List.nodup_nil,List.nodup_nil,List.nodup_nil,⟨Int.le_refl _,by show (0:Int)<=63;decide⟩,(λk h=>by cases h),(λk=>rfl),(λk=>rfl),(λk s h=>by cases h),(λk h=>by cases h),(λk t h=>by cases h)⟩
 nn:=Int.le_refl _
theorem bk_of{c:Cl}{ad dx:Lb->Addr}{sl:Sl}{H0 H:Hp}{B:BkS}(p:Pt ad H0 H (cont c ⟨ad,dx⟩ sl B))(hs:∀i s,cont c ⟨ad,dx⟩ sl B (.slot i s)=none):Bk c ⟨ad,dx⟩ sl H0 H B:=by
 have e:∀l o,cont c ⟨ad,dx⟩ sl B l=some o->loc ⟨ad,dx⟩ sl l=ad l:=λl o h=>by
  cases l with
  |slot i s=>rw[hs i s] at h;cases h
  |_=>rfl
 exact⟨p.same,λl o h=>by rw[e l o h];exact p.free l o h,λl o h=>by rw[e l o h];exact p.here l o h,λl1 l2 o1 o2 h1 h2 z=>by rw[e l1 o1 h1,e l2 o2 h2] at z;exact p.inj l1 l2 o1 o2 h1 h2 z⟩
abbrev newV(S:Int)(n:Nat):Vw:=⟨S,n,0,0,λ_=>none,λ_=>none⟩
def spBookInit(c:Cl)(Bad:Addr):Sp:=λvs H Q E=>∃(H0:Hp) (p dxp:Addr) (S n:Int),vs=[.ref p,.int S,.int n]/\Lg S/\Lg n/\Same H0 H/\H0 p=none/\H p=some (.ins c.Book dxp [])/\(¬TY S n->∀H',Same H0 H'->E (.ref Bad) none H')/\
 (TY S n->∀(H':Hp),BookAt c H0 H' p (newV S n.toNat)->Q .non H')
theorem Pb:FnScope ["self","slots","levels"] ["self","slots","levels"] (Zd Yt):=Zu
theorem Px(T:Txt K mg a):FnOk P w K mg base (CXe P w) 6 a.f_Book___init__ a.fd_Book___init__ ["self","slots","levels"] (spBookInit (clOf a) a.C_BadWheels):=by
 have G_Rack:=Pw (P:=P) (w:=w) (base:=base) T;refine T.F_Book___init__.okE Pb (λvs H Q E h=>?_) (λcdv A' outer s H vs Q E hr h=>?_)
 ·obtain⟨H0,p,dxp,S,n,rfl,_⟩:=h;rfl
 ·obtain⟨H0,p,dxp,S,n,rfl,l1,l2,s0,h0,hp,k0,k1⟩:=h;refine⟨_,(Zh (Xa (pv 0) (SY T.M_Rack G_Rack (hr.mono (by decide)) rfl T.c_Rack T.B_Rack___init__ .nil Uv (Za (pv 1) (Za (pv 2) Ze))) rfl)
   (Zh (Xa (pv 0) Zg rfl)
   (Zh (Xa (pv 0) Zg rfl)
   (Zh (Xa (pv 0) XI rfl)
   (Zh (Xa (pv 0) XI rfl)
   (Zh (Xa (pv 0) XI rfl)
   (Zf (Xa (pv 0) XI rfl)))))))),?_⟩
  refine⟨_,rfl,_,rfl,λx dx' hx hdx nx=>?_⟩;have nxp:x≠p:=λz=>by rw[z,hp] at hx;cases hx
  have sP:Same (upd H0 p (.ins a.C_Book dxp [])) H:=λb o e=>by
   by_cases z:b=p
   ·subst z;rw[Zb] at e;cases e;exact hp
   ·rw[Zc z] at e;exact s0 b o e
  have sA:Same H (upd (upd H dx' (.own x)) x (.ins a.C_Rack dx' [])):=λb o e=>by
   rw[Zc (Zt e hx),Zc (Zt e hdx)];exact e
  refine⟨upd H0 p (.ins a.C_Book dxp []),x,dx',S,n,rfl,l1,l2,sP.trans sA,(by rw[Zc nxp];exact s0.free hx),Zb,λhb H' sH=>k0 hb H' ((Same.upd h0).trans sH),λg H1 ad dx ea P0=>⟨rfl,?_⟩⟩;obtain⟨⟨g1,g2⟩,g3,g4⟩:=id g;have P1:=P0.adopt (l:=.book) h0 rfl;have hb1:=P1.here .book _ Zm;rw[Zm] at hb1;refine⟨_,rfl,p,_,_,_,rfl,hb1,T.cl_Book,T.n_Book_rack,(by show 0<1000;decide),?_⟩;have P2:=P1.write (l:=.book) (o':=.ins a.C_Book dxp [("rack",.ref x)]) Zm;rw[Zm] at P2;have hb2:=P2.here .book _ Zm;rw[Zm] at hb2;refine⟨_,rfl,p,_,_,_,rfl,hb2,T.cl_Book,T.n_Book_now,(by show 1<1000;decide),?_⟩;have P3:=P2.write (l:=.book) (o':=.ins a.C_Book dxp [("rack",.ref x),("now",.int 0)]) Zm;rw[Zm] at P3;have hb3:=P3.here .book _ Zm;rw[Zm] at hb3;refine⟨_,rfl,p,_,_,_,rfl,hb3,T.cl_Book,T.n_Book_next_number,(by show 2<1000;decide),?_⟩;have P4:=P3.write (l:=.book) (o':=.ins a.C_Book dxp [("rack",.ref x),("now",.int 0),("next_number",.int 0)]) Zm;rw[Zm] at P4;intro d1 hd1;have P5:=P4.add (l:=.names) (x:=d1) (o:=.dK []) rfl hd1 (Same.upd hd1) Zb;have hb5:=P5.here .book _ (by rw[Zi (by intro z;cases z),Zm]);rw[Zi (by intro z;cases z),Zm] at hb5;refine⟨_,rfl,p,_,_,_,rfl,hb5,T.cl_Book,T.n_Book_names,(by show 3<1000;decide),?_⟩;have P6:=P5.write (l:=.book) (o':=.ins a.C_Book dxp [("rack",.ref x),("now",.int 0),("next_number",.int 0),("names",.ref d1)]) (by rw[Zi (by intro z;cases z),Zm]);rw[Zi (by intro z;cases z),Zm] at P6;intro d2 hd2;have P7:=P6.add (l:=.steps) (x:=d2) (o:=.dK []) rfl hd2 (Same.upd hd2) Zb;have hb7:=P7.here .book _ (by rw[Zi (by intro z;cases z),Zm]);rw[Zi (by intro z;cases z),Zi (by intro z;cases z),Zm] at hb7;refine⟨_,rfl,p,_,_,_,rfl,hb7,T.cl_Book,T.n_Book_steps,(by show 4<1000;decide),?_⟩;have P8:=P7.write (l:=.book) (o':=.ins a.C_Book dxp [("rack",.ref x),("now",.int 0),("next_number",.int 0),("names",.ref d1),("steps",.ref d2)]) (by rw[Zi (by intro z;cases z),Zm]);rw[Zi (by intro z;cases z),Zi (by intro z;cases z),Zm] at P8;intro d3 hd3;have P9:=P8.add (l:=.ticks) (x:=d3) (o:=.dK []) rfl hd3 (Same.upd hd3) Zb;have hb9:=P9.here .book _ (by rw[Zi (by intro z;cases z),Zm]);rw[Zi (by intro z;cases z),Zi (by intro z;cases z),Zi (by intro z;cases z),Zm] at hb9;refine⟨_,rfl,p,_,_,_,rfl,hb9,T.cl_Book,T.n_Book_ticks,(by show 5<1000;decide),?_⟩;have P10:=P9.write (l:=.book) (o':=.ins a.C_Book dxp [("rack",.ref x),("now",.int 0),("next_number",.int 0),("names",.ref d1),("steps",.ref d2),("ticks",.ref d3)]) (by rw[Zi (by intro z;cases z),Zm]);rw[Zi (by intro z;cases z),Zi (by intro z;cases z),Zi (by intro z;cases z),Zm] at P10;intro d4 hd4;have P11:=P10.add (l:=.kept) (x:=d4) (o:=.dK []) rfl hd4 (Same.upd hd4) Zb;have hb11:=P11.here .book _ (by rw[Zi (by intro z;cases z),Zm]);rw[Zi (by intro z;cases z),Zi (by intro z;cases z),Zi (by intro z;cases z),Zi (by intro z;cases z),Zm] at hb11;refine⟨_,rfl,p,_,_,_,rfl,hb11,T.cl_Book,T.n_Book_kept_ticks,(by show 6<1000;decide),?_⟩;have P12:=P11.write (l:=.book) (o':=.ins a.C_Book dxp (SK x 0 0 d1 d2 d3 d4)) (by rw[Zi (by intro z;cases z),Zm]);rw[Zi (by intro z;cases z),Zi (by intro z;cases z),Zi (by intro z;cases z),Zi (by intro z;cases z),Zm] at P12;generalize hAd:lput (lput (lput (lput (lput ad .book p) .names d1) .steps d2) .ticks d3) .kept d4=AD at P12;have a1:AD .book=p:=by rw[←hAd];rfl
  have a2:AD .rack=x:=by rw[←hAd];exact ea
  have a3:AD .names=d1:=by rw[←hAd];rfl
  have a4:AD .steps=d2:=by rw[←hAd];rfl
  have a5:AD .ticks=d3:=by rw[←hAd];rfl
  have a6:AD .kept=d4:=by rw[←hAd];rfl
  have a7:AD .wheels=ad .wheels:=by rw[←hAd];rfl
  have a8:AD .rows=ad .rows:=by rw[←hAd];rfl
  have a9:AD .spans=ad .spans:=by rw[←hAd];rfl
  have a10:∀i,AD (.row i)=ad (.row i):=λi=>by rw[←hAd];rfl
  have a11:∀i,AD (.filled i)=ad (.filled i):=λi=>by rw[←hAd];rfl
  have a12:∀i,AD (.rising i)=ad (.rising i):=λi=>by rw[←hAd];rfl
  have PB:Pt AD H0 _ (cont (clOf a) ⟨AD,lput dx .book dxp⟩ (λ_ _=>0) (newB S n.toNat)):=P12.congr λl=>by
   cases l with
   |book=>
    rw[Zm];show _=some (HO.ins a.C_Book _ (SK (AD .rack) 0 0 (AD .names) (AD .steps) (AD .ticks) (AD .kept)));rw[a2,a3,a4,a5,a6];rfl
   |rack=>
    show some (HO.ins a.C_Rack (dx .rack) (Ry (ad .wheels) (ad .rows)))=some (HO.ins a.C_Rack (dx .rack) (Ry (AD .wheels) (AD .rows)));rw[a7,a8]
   |wheels=>
    show some (HO.ins a.C_Wheels (dx .wheels) (Xm S (ad .spans)))=some (HO.ins a.C_Wheels (dx .wheels) (Xm S (AD .spans)));rw[a9]
   |spans=>rfl
   |rows=>
    show some (HO.lst ((List.range (n.toNat+1)).map λi=>V.ref (ad (.row i))))=some (HO.lst ((List.range ((List.range (n.toNat+1)).map _).length).map λi=>V.ref (AD (.row i))));rw[List.length_map,List.length_range];congr 2
    apply List.map_congr_left
    intro i _;rw[a10]
   |row i=>
    show (if i<n.toNat+1 then some (HO.ins a.C_Row (dx (.row i)) (rowF (S ^ i) (ad (.filled i)) (ad (.rising i)))) else none)=(newB S n.toNat).rows[i]?.map λr=>HO.ins a.C_Row (dx (.row i)) (rowF r.span (AD (.filled i)) (AD (.rising i)));rw[VZ,a11,a12];by_cases h:i<n.toNat+1
    ·rw[if_pos h,if_pos h];rfl
    ·rw[if_neg h,if_neg h];rfl
   |filled i=>
    show (if i<n.toNat+1 then some (HO.dK []) else none)=(newB S n.toNat).rows[i]?.map λr=>HO.dK (Yn (λ_ _=>0) i r.filled);rw[VZ];by_cases h:i<n.toNat+1
    ·rw[if_pos h,if_pos h];rfl
    ·rw[if_neg h,if_neg h];rfl
   |rising i=>
    show (if i<n.toNat+1 then some (HO.lst []) else none)=(newB S n.toNat).rows[i]?.map λr=>HO.lst (r.rising.map V.int);rw[VZ];by_cases h:i<n.toNat+1
    ·rw[if_pos h,if_pos h];rfl
    ·rw[if_neg h,if_neg h];rfl
   |names=>rfl
   |steps=>rfl
   |ticks=>rfl
   |kept=>rfl
   |slot i s=>
    show none=(newB S n.toNat).rows[i]?.bind λr=>(get r.filled s).map λns=>HO.dK (numV ns);rw[VZ];by_cases h:i<n.toNat+1
    ·rw[if_pos h];rfl
    ·rw[if_neg h];rfl
  have hsl:∀i s,cont (clOf a) ⟨AD,lput dx .book dxp⟩ (λ_ _=>0) (newB S n.toNat) (.slot i s)=none:=λi s=>by
   show ((newB S n.toNat).rows[i]?.bind λr=>(get r.filled s).map λns=>HO.dK (numV ns))=none;rw[VZ];by_cases h:i<n.toNat+1
   ·rw[if_pos h];rfl
   ·rw[if_neg h];rfl
  have hok:=newB_ok (n:=n.toNat) g1 g2 (by omega) (by omega);exact k1 g _ ⟨⟨AD,lput dx .book dxp⟩,_,newB S n.toNat,a1,bk_of PB hsl,hok,rfl,rfl,rfl,rfl⟩
def spRowTake(c:Cl):Sp:=λvs H Q _=>∃(A:Adr) (sl:Sl) (H0:Hp) (B:BkS) (i:Nat) (r:RowS) (g:Int->Option Int) (n t:Int),vs=[.ref (A.ad (.row i)),.int n,.int t]/\Bk c A sl H0 H B/\B.rows[i]?=some r/\RowOK r g/\Sm r/\g n=some t/\
 ∀H' sl',Bk c A sl' H0 H' (ZS B i (YL r n (t/r.span)))->Q .non H'
theorem sc_Row_take:FnScope ["self","number","tick","slot"] ["self","number","tick"] (Zd XW):=Zu
theorem ok_Row_take(T:Txt K mg a):FnOk P w K mg base (CXe P w) 3 a.f_Row_take a.fd_Row_take ["self","number","tick"] (spRowTake (clOf a)):=by
 have G_Row_take_slot:=VY (P:=P) (w:=w) (base:=base) T;refine T.F_Row_take.okN sc_Row_take (λvs H Q E h=>?_) (λcdv A' outer s H vs Q E hr h=>?_)
 ·obtain⟨A,sl,H0,B,i,r,g,n,t,rfl,_⟩:=h;rfl
 ·obtain⟨A,sl,H0,B,i,r,g,n,t,rfl,b,hi,R,sm,hg,k⟩:=h;have hu:=YK hr;obtain⟨ns,hns,hm⟩:=(R.has n (t/r.span)).mpr ⟨t,hg,rfl⟩;have hrs:t/r.span∈r.rising:=(R.mem _).mpr (by rw[hns];rfl);refine⟨_,(Zh (Zw (i:=3) sc_Row_take.nd rfl (Or.inl rfl) (Zp ZI (pv 2) (Zx (pv 0) rfl)))
   (Zh (ZH (YT (Zr hu (Zx (pv 0) rfl) (pv 3) (λ_ _=>rfl)) (pv 1) ⟨rfl,rfl,rfl,rfl⟩))
   (Zf (ZG (Zq XF (ZF call_lenD (by rfl) T.b_len boot_len (Za (Zr hu (Zx (pv 0) rfl) (pv 3) (λ_ _=>rfl)) Ze)) Zg (Zz _)) (Zf (ZH (Yx (pv 0) T.cl_Row T.m_Row_take_slot G_Row_take_slot (hr.mono (by decide)) T.B_Row_take_slot .nil ZB (Za (pv 3) Ze)))) Zv)))),?_⟩
  refine⟨_,rfl,_,rfl,_,_,_,_,_,rfl,b.row hi,T.cl_Row,T.n_Row_span,rfl,_,_,rfl,rfl,⟨R.sp,sm.sp⟩,?_⟩;obtain⟨v,hv⟩:=Option.isSome_iff_exists.mp (valV_numV hm);refine⟨_,rfl,_,_,_,_,_,rfl,b.row hi,T.cl_Row,T.n_Row_filled,rfl,_,rfl,_,_,rfl,b.getF hi hns,_,rfl,.inl ⟨_,.inl (b.slot hi hns)⟩,_,rfl,_,Sum.inl n,v,b.slot hi hns,rfl,hv,?_⟩;rw[dropK_numV];have b1:=b.wSlot hi hns (ZR ns n);have hi1:(ZS B i (Xn r (t/r.span) (ZR ns n))).rows[i]?=some (Xn r (t/r.span) (ZR ns n)):=Vu hi;have hg1:get (Xn r (t/r.span) (ZR ns n)).filled (t/r.span)=some (ZR ns n):=by show get (put r.filled _ _) _=_;rw[ZD,if_pos rfl]
  have eT:YL r n (t/r.span)=if ZR ns n=[] then VD (Xn r (t/r.span) (ZR ns n)) (t/r.span) else Xn r (t/r.span) (ZR ns n):=by unfold YL;rw[hns];rfl
  refine⟨_,rfl,_,_,_,_,_,rfl,b1.row hi1,T.cl_Row,T.n_Row_filled,rfl,_,rfl,_,_,rfl,b1.getF hi1 hg1,_,_,rfl,b1.slot hi1 hg1,rfl,_,rfl,?_⟩;have el:(numV (ZR ns n)).length=(ZR ns n).length:=by unfold numV;rw[List.length_map]
  rw[el];by_cases he:ZR ns n=[]
  ·rw[decide_eq_true (show V.int ((ZR ns n).length:Int)=V.int 0 by rw[he];rfl)];have sm1:Sm (Xn r (t/r.span) (ZR ns n)):=by
    refine⟨sm.sp,sm.ri,?_,λx ms h=>?_⟩
    ·show (put r.filled _ _).length<=100;have:(keys (put r.filled (t/r.span) (ZR ns n))).length=(keys r.filled).length:=by rw[TM _ (by rw[hns];rfl)]
     have f1:=sm.fi;simp[keys] at this;omega
    ·have h':get (put r.filled (t/r.span) (ZR ns n)) x=some ms:=h;rw[ZD] at h';by_cases ex:x=t/r.span
     ·rw[if_pos ex] at h';cases h';rw[he];decide
     ·rw[if_neg ex] at h';exact sm.ns _ _ h'
   refine iteT ⟨_,rfl,_,_,_,rfl,b1.row hi1,rfl,_,rfl,A,sl,H0,_,i,_,t/r.span,ZR ns n,rfl,b1,hi1,R.srt,hrs,hg1,(R.nd _ _ hns).sublist List.filter_sublist,sm1,λH2 l out hl b2 _ _=>?_⟩;rw[Vb] at b2;refine k H2 sl ?_;rw[eT,if_pos he];exact b2.weak (Same.upd hl)
  ·have hne: ¬V.int ((ZR ns n).length:Int)=V.int 0:=λz=>he (List.length_eq_zero_iff.mp (by injection z with z;omega));rw[decide_eq_false hne];refine iteF ?_;refine k _ sl ?_;rw[eT,if_neg he];exact b1
def spRackTake(c:Cl):Sp:=λvs H Q _=>∃(A:Adr) (sl:Sl) (H0:Hp) (B:BkS) (S:Int) (n:Nat) (now k t:Int) (f:Int->Option Int),vs=[.ref (A.ad .rack),.int now,.int k,.int t]/\Bk c A sl H0 H B/\Geo S n B/\RackOK S n now B.rows f/\f k=some t/\
 ∀(H':Hp) (sl':Sl) (rows':List RowS),Bk c A sl' H0 H' {B with rows:=rows'}->rows'.length=B.rows.length->RackOK S n now rows' (gput f k none)->Q .non H'
theorem QY:FnScope ["self","now","number","tick"] ["self","now","number","tick"] (Zd XC):=Zu
theorem Pu(T:Txt K mg a):FnOk P w K mg base (CXe P w) 4 a.f_Rack_take a.fd_Rack_take ["self","now","number","tick"] (spRackTake (clOf a)):=by
 have G_Rack_row_of:=Uw (P:=P) (w:=w) (base:=base) T;have G_Row_take:=ok_Row_take (P:=P) (w:=w) (base:=base) T;refine T.F_Rack_take.okN QY (λvs H Q E h=>?_) (λcdv A' outer s H vs Q E hr h=>?_)
 ·obtain⟨A,sl,H0,B,S,n,now,k,t,f,rfl,_⟩:=h;rfl
 ·obtain⟨A,sl,H0,B,S,n,now,k,t,f,rfl,b,G,R,hk,kk⟩:=h;refine⟨_,(Zf (ZH (Yx (Yx (pv 0) T.cl_Rack T.m_Rack_row_of G_Rack_row_of (hr.mono (by decide)) T.B_Rack_row_of .nil ZB (Za (pv 1) (Za (pv 3) Ze))) T.cl_Row T.m_Row_take G_Row_take (hr.mono (by decide)) T.B_Row_take .nil ZB (Za (pv 2) (Za (pv 3) Ze))))),?_⟩;refine⟨_,rfl,_,_,_,rfl,b.rack,rfl,_,rfl,_,rfl,A,sl,H0,B,S,n,now,t,rfl,b,G,λH1 s1=>?_⟩;have b1:=b.up s1;obtain⟨r,hi⟩:=R.at (SD S n now t);refine⟨_,_,_,rfl,b1.row hi,rfl,_,rfl,_,rfl,A,sl,H0,B,_,r,_,k,t,rfl,b1,hi,R.row _ _ hi,RackOK.sm R G.hi G.n6 hi,fil_some.mpr ⟨hk,rfl⟩,λH2 sl2 b2=>?_⟩;exact kk H2 sl2 _ b2 (List.length_set ..) (R.take hk hi)
end Tk
end
section
namespace Tb
open PySem L2 Mir Rk
section
variable {B:BkS}
noncomputable def goneW(B:BkS)(k:Int):BkS:={B with ticks:=drop B.ticks k,steps:=drop B.steps k,names:=drop B.names k}
noncomputable def goneR(B:BkS)(k:Int):BkS:={B with kept:=drop B.kept k,steps:=drop B.steps k,names:=drop B.names k}
noncomputable def moveB(B:BkS)(k due:Int):BkS:={B with ticks:=put B.ticks k due}
noncomputable def restB(B:BkS)(k left:Int):BkS:={B with ticks:=drop B.ticks k,kept:=put B.kept k left}
noncomputable def goB(B:BkS)(k t:Int):BkS:={B with kept:=drop B.kept k,ticks:=put B.ticks k t}
theorem ZM{α:Type}(t:Dct α)(k m:Int):(get (drop t k) m).isSome=(!decide (m=k)&&(get t m).isSome):=by
 rw[Zy];by_cases e:m=k<;>simp[e]
theorem Vz{α:Type}(t:Dct α)(k m:Int)(a:α):(get (put t k a) m).isSome=(decide (m=k)||(get t m).isSome):=by
 rw[ZD];by_cases e:m=k<;>simp[e]
theorem Out.goneW(o:Out B){k t:Int}(h:get B.ticks k=some t):Out (goneW B k):=by
 have hk:get B.kept k=none:=o.dis k (by rw[h];rfl);refine⟨ZL o.ndT _,o.ndK,ZL o.ndN _,ZL o.ndS _,o.nx,λm q=>?_,λm=>?_,λm=>?_,λm s q=>?_,λm q=>?_,o.kp⟩
 ·have q':(get (drop B.names k) m).isSome=true:=q;rw[ZM,Bool.and_eq_true] at q';exact o.dom m q'.2
 ·show (get (drop B.names k) m).isSome=((get (drop B.ticks k) m).isSome||(get B.kept m).isSome);rw[ZM,ZM,o.nm m];by_cases e:m=k
  ·simp[e,hk]
  ·simp[e]
 ·show (get (drop B.steps k) m).isSome=(get (drop B.names k) m).isSome;rw[ZM,ZM,o.st m]
 ·have q':get (drop B.steps k) m=some (some s):=q;rw[Zy] at q';by_cases e:m=k
  ·rw[if_pos e] at q';cases q'
  ·rw[if_neg e] at q';exact o.pos m s q'
 ·have q':(get (drop B.ticks k) m).isSome=true:=q;rw[ZM,Bool.and_eq_true] at q';exact o.dis m q'.2
theorem Out.goneR(o:Out B){k t:Int}(h:get B.kept k=some t):Out (goneR B k):=by
 have hk:get B.ticks k=none:=by
  cases e:get B.ticks k with
  |none=>rfl
  |some v=>have:=o.dis k (by rw[e];rfl);rw[h] at this;cases this
 refine⟨o.ndT,ZL o.ndK _,ZL o.ndN _,ZL o.ndS _,o.nx,λm q=>?_,λm=>?_,λm=>?_,λm s q=>?_,λm q=>?_,λm x q=>?_⟩
 ·have q':(get (drop B.names k) m).isSome=true:=q;rw[ZM,Bool.and_eq_true] at q';exact o.dom m q'.2
 ·show (get (drop B.names k) m).isSome=((get B.ticks m).isSome||(get (drop B.kept k) m).isSome);rw[ZM,ZM,o.nm m];by_cases e:m=k
  ·simp[e,hk]
  ·simp[e]
 ·show (get (drop B.steps k) m).isSome=(get (drop B.names k) m).isSome;rw[ZM,ZM,o.st m]
 ·have q':get (drop B.steps k) m=some (some s):=q;rw[Zy] at q';by_cases e:m=k
  ·rw[if_pos e] at q';cases q'
  ·rw[if_neg e] at q';exact o.pos m s q'
 ·show get (drop B.kept k) m=none;rw[Zy];by_cases e:m=k
  ·rw[if_pos e]
  ·rw[if_neg e];exact o.dis m q
 ·have q':get (drop B.kept k) m=some x:=q;rw[Zy] at q';by_cases e:m=k
  ·rw[if_pos e] at q';cases q'
  ·rw[if_neg e] at q';exact o.kp m x q'
theorem Out.moveB(o:Out B){k t:Int}(h:get B.ticks k=some t)(due:Int):Out (moveB B k due):=by
 refine⟨Ya o.ndT _ _,o.ndK,o.ndN,o.ndS,o.nx,o.dom,λm=>?_,o.st,o.pos,λm q=>?_,o.kp⟩
 ·show (get B.names m).isSome=((get (put B.ticks k due) m).isSome||(get B.kept m).isSome);rw[Vz,o.nm m];by_cases e:m=k
  ·simp[e,h]
  ·simp[e]
 ·have q':(get (put B.ticks k due) m).isSome=true:=q;rw[Vz,Bool.or_eq_true] at q';rcases q' with e|e
  ·have e':m=k:=by simpa using e
   rw[e'];exact o.dis k (by rw[h];rfl)
  ·exact o.dis m e
theorem Out.restB(o:Out B){k t:Int}(h:get B.ticks k=some t){left:Int}(hl:0<left):Out (restB B k left):=by
 refine⟨ZL o.ndT _,Ya o.ndK _ _,o.ndN,o.ndS,o.nx,o.dom,λm=>?_,o.st,o.pos,λm q=>?_,λm x q=>?_⟩
 ·show (get B.names m).isSome=((get (drop B.ticks k) m).isSome||(get (put B.kept k left) m).isSome);rw[ZM,Vz,o.nm m];by_cases e:m=k
  ·simp[e,h]
  ·simp[e]
 ·have q':(get (drop B.ticks k) m).isSome=true:=q;rw[ZM,Bool.and_eq_true] at q';have e: ¬m=k:=by simpa using q'.1
  show get (put B.kept k left) m=none;rw[ZD,if_neg e];exact o.dis m q'.2
 ·have q':get (put B.kept k left) m=some x:=q;rw[ZD] at q';by_cases e:m=k
  ·rw[if_pos e] at q';cases q';exact hl
  ·rw[if_neg e] at q';exact o.kp m x q'
theorem Out.goB(o:Out B){k t:Int}(h:get B.kept k=some t)(x:Int):Out (goB B k x):=by
 refine⟨Ya o.ndT _ _,ZL o.ndK _,o.ndN,o.ndS,o.nx,o.dom,λm=>?_,o.st,o.pos,λm q=>?_,λm y q=>?_⟩
 ·show (get B.names m).isSome=((get (put B.ticks k x) m).isSome||(get (drop B.kept k) m).isSome);rw[ZM,Vz,o.nm m];by_cases e:m=k
  ·simp[e,h]
  ·simp[e]
 ·have q':(get (put B.ticks k x) m).isSome=true:=q;rw[Vz,Bool.or_eq_true] at q';show get (drop B.kept k) m=none;rw[Zy];by_cases e:m=k
  ·rw[if_pos e]
  ·rw[if_neg e];exact o.dis m (q'.resolve_left (by simpa using e))
 ·have q':get (drop B.kept k) m=some y:=q;rw[Zy] at q';by_cases e:m=k
  ·rw[if_pos e] at q';cases q'
  ·rw[if_neg e] at q';exact o.kp m y q'
theorem wait_goneW{k:Int}:wait (goneW B k)=fput (wait B) k none:=by
 funext m;show ZW (get (drop B.names k) m) (get (drop B.steps k) m) (get (drop B.ticks k) m)=_;rw[Zy,Zy,Zy];unfold fput;by_cases e:m=k
 ·simp[e,ZW]
 ·simp only[if_neg e];rfl
theorem Out.rest_goneW(o:Out B){k t:Int}(h:get B.ticks k=some t):rest (Tb.goneW B k)=rest B:=by
 have hk:get B.kept k=none:=o.dis k (by rw[h];rfl);funext m;show ZW (get (drop B.names k) m) (get (drop B.steps k) m) (get B.kept m)=ZW (get B.names m) (get B.steps m) (get B.kept m);rw[Zy,Zy];by_cases e:m=k
 ·rw[e,hk];rfl
 ·rw[if_neg e,if_neg e]
theorem rest_goneR{k:Int}:rest (goneR B k)=fput (rest B) k none:=by
 funext m;show ZW (get (drop B.names k) m) (get (drop B.steps k) m) (get (drop B.kept k) m)=_;rw[Zy,Zy,Zy];unfold fput;by_cases e:m=k
 ·simp[e,ZW]
 ·simp only[if_neg e];rfl
theorem wait_goneR{k:Int}(h:get B.ticks k=none):wait (goneR B k)=wait B:=by
 funext m;show ZW (get (drop B.names k) m) (get (drop B.steps k) m) (get B.ticks m)=ZW (get B.names m) (get B.steps m) (get B.ticks m);rw[Zy,Zy];by_cases e:m=k
 ·rw[e,h];rfl
 ·rw[if_neg e,if_neg e]
theorem wait_moveB{k due:Int}{nm:Str}{sp:Option Int}(h1:get B.names k=some nm)(h2:get B.steps k=some sp):wait (moveB B k due)=fput (wait B) k (some ⟨nm,due,sp⟩):=by
 funext m;show ZW (get B.names m) (get B.steps m) (get (put B.ticks k due) m)=_;rw[ZD];unfold fput;by_cases e:m=k
 ·subst e;simp[ZW,h1,h2]
 ·simp only[if_neg e];rfl
theorem wait_restB{k left:Int}:wait (restB B k left)=fput (wait B) k none:=by
 funext m;show ZW (get B.names m) (get B.steps m) (get (drop B.ticks k) m)=_;rw[Zy];unfold fput;by_cases e:m=k
 ·simp[e,ZW]
 ·simp only[if_neg e];rfl
theorem rest_restB{k left:Int}{nm:Str}{sp:Option Int}(h1:get B.names k=some nm)(h2:get B.steps k=some sp):rest (restB B k left)=fput (rest B) k (some ⟨nm,left,sp⟩):=by
 funext m;show ZW (get B.names m) (get B.steps m) (get (put B.kept k left) m)=_;rw[ZD];unfold fput;by_cases e:m=k
 ·subst e;simp[ZW,h1,h2]
 ·simp only[if_neg e];rfl
theorem rest_goB{k t:Int}:rest (goB B k t)=fput (rest B) k none:=by
 funext m;show ZW (get B.names m) (get B.steps m) (get (drop B.kept k) m)=_;rw[Zy];unfold fput;by_cases e:m=k
 ·simp[e,ZW]
 ·simp only[if_neg e];rfl
theorem wait_goB{k t:Int}{nm:Str}{sp:Option Int}(h1:get B.names k=some nm)(h2:get B.steps k=some sp):wait (goB B k t)=fput (wait B) k (some ⟨nm,t,sp⟩):=by
 funext m;show ZW (get B.names m) (get B.steps m) (get (put B.ticks k t) m)=_;rw[ZD];unfold fput;by_cases e:m=k
 ·subst e;simp[ZW,h1,h2]
 ·simp only[if_neg e];rfl
end
end Tb
end
section
namespace Tk
open PySem L2 Mir Rk Tb
open PyProof.Rows (boot_sorted boot_min boot_enumerate boot_isinstance boot_sum boot_max)
variable {P:Program}{w:World}{K:W.Frag}{mg:Str->Option Value}{base:Heap}{a:Ad}
def spStop(c:Cl):Sp:=λvs H Q _=>∃(A:Adr) (sl:Sl) (H0:Hp) (B:BkS) (S:Int) (n:Nat) (k t:Int),vs=[.ref (A.ad .book),.int k]/\Bk c A sl H0 H B/\Geo S n B/\RackOK S n B.now B.rows (get B.ticks)/\get B.ticks k=some t/\
 ∀(H':Hp) (sl':Sl) (rows':List RowS),Bk c A sl' H0 H' {B with rows:=rows',ticks:=drop B.ticks k}->rows'.length=B.rows.length->RackOK S n B.now rows' (gput (get B.ticks) k none)->Q .non H'
theorem SL:FnScope ["book","number"] ["book","number"] (Zd Yz):=Zu
theorem Vi(T:Txt K mg a):FnOk P w K mg base (CXe P w) 5 a.f_stop_waiting a.fd_stop_waiting ["book","number"] (spStop (clOf a)):=by
 have G_Rack_take:=Pu (P:=P) (w:=w) (base:=base) T;refine T.F_stop_waiting.okN SL (λvs H Q E h=>?_) (λcdv A' outer s H vs Q E hr h=>?_)
 ·obtain⟨A,sl,H0,B,S,n,k,t,rfl,_⟩:=h;rfl
 ·obtain⟨A,sl,H0,B,S,n,k,t,rfl,b,G,R,ht,kk⟩:=h;refine⟨_,(Zf (ZH (Yx (Zx (pv 0) rfl) T.cl_Rack T.m_Rack_take G_Rack_take (hr.mono (by decide)) T.B_Rack_take .nil ZB (Za (Zx (pv 0) rfl) (Za (pv 1) (Za (YT (Zx (pv 0) rfl) (pv 1) ⟨rfl,rfl,rfl,rfl⟩) Ze)))))),?_⟩;refine⟨_,rfl,_,_,_,_,_,rfl,b.book,T.cl_Book,T.n_Book_rack,rfl,_,_,_,rfl,b.rack,rfl,_,rfl,_,_,_,_,_,rfl,b.book,T.cl_Book,T.n_Book_now,rfl,_,rfl,_,rfl,_,_,_,_,_,rfl,b.book,T.cl_Book,T.n_Book_ticks,rfl,_,rfl,.inl ⟨_,.inl b.ticks⟩,_,rfl,_,Sum.inl k,.int t,b.ticks,rfl,(by rw[ZX,ht];rfl),?_⟩;have b1:=b.popT k;exact⟨A,sl,H0,_,S,n,B.now,k,t,get B.ticks,rfl,b1,G.up rfl rfl rfl,R,ht,λH' sl' rows' b2 e R'=>kk H' sl' rows' b2 e R'⟩
theorem SQ:FnScope ["self"] ["self"] (Zd YF):=Zu
theorem ST(T:Txt K mg a):FnOk P w K mg base (CXe P w) 1 a.f_Book_resting a.fd_Book_resting ["self"] (spNums (clOf a) (·.rest)):=by
 refine T.F_Book_resting.okN SQ (λvs H Q E h=>?_) (λcdv A' outer s H vs Q E hr h=>?_)
 ·obtain⟨H0,p,v,rfl,_⟩:=h;rfl
 ·obtain⟨H0,p,v,rfl,⟨A,sl,B,rfl,b,ok,e1,e2,e3,e4⟩,k⟩:=h;refine⟨_,(Zf (Zn (ZF (Xj rfl) rfl T.b_sorted boot_sorted (Za (Zx (pv 0) rfl) Ze)))),?_⟩;have lns:=ok.out.lens;refine⟨_,rfl,_,_,_,_,_,rfl,b.book,T.cl_Book,T.n_Book_kept_ticks,rfl,_,B.kept.map λp=>(p.1,V.int p.2),rfl,(by rw[←Tm];exact b.kept),(by rw[List.length_map];omega),λout hperm hsort l hl=>?_⟩;have e5:(B.kept.map λp=>(p.1,V.int p.2)).map (·.1)=keys B.kept:=by rw[List.map_map];rfl
  rw[e5] at hperm;obtain⟨h1,h2⟩:=Vc hperm hsort ok.out.ndK;refine k _ l out (b.same.free hl) ⟨A,sl,B,rfl,b.out (.inl hl),ok,e1,e2,e3,e4⟩ ⟨h1,λx=>?_⟩;show x∈out↔(v.rest x).isSome=true;rw[h2 x,Sr,←e4];cases e:get B.kept x with
  |none=>unfold Tb.rest;rw[e];simp[ZW]
  |some t=>obtain⟨nm,sp,_,_,hw⟩:=ok.out.rests e;rw[hw];rfl
theorem Qo{B:BkS}(o:Out B)(k:Int):(Tb.rest B k).map (·.tick)=get B.kept k:=by
 cases e:get B.kept k with
 |none=>unfold Tb.rest;rw[e];simp[ZW]
 |some t=>obtain⟨nm,sp,_,_,hw⟩:=o.rests e;rw[hw];rfl
def spLeft(c:Cl)(NotThere:Addr):Sp:=λvs H Q E=>∃(H0:Hp) (p:Addr) (v:Vw) (k:Int),vs=[.ref p,.int k]/\BookAt c H0 H p v/\Lg k/\(v.rest k=none->E (.ref NotThere) none H)/\∀al,v.rest k=some al->Q (.int al.tick) H
theorem Pa:FnScope ["self","number"] ["self","number"] (Zd XE):=Zu
theorem TH(T:Txt K mg a):FnOk P w K mg base (CXe P w) 1 a.f_Book_left a.fd_Book_left ["self","number"] (spLeft (clOf a) a.C_NotThere):=by
 refine T.F_Book_left.okE Pa (λvs H Q E h=>?_) (λcdv A' outer s H vs Q E hr h=>?_)
 ·obtain⟨H0,p,v,k,rfl,_⟩:=h;rfl
 ·obtain⟨H0,p,v,k,rfl,⟨A,sl,B,rfl,b,ok,e1,e2,e3,e4⟩,hl,k0,k1⟩:=h;have hu:=YK hr;refine⟨_,(Zh (ZG (Ug (Vt hu (pv 1) (Zx (pv 0) rfl))) (Zf (Ve Sy rfl rfl T.c_NotThere T.x_NotThere (Za (VG (YX (Vg (pv 1) (YX Uu)))) Ze))) Zv)
   (Zf (Zn (Zr hu (Zx (pv 0) rfl) (pv 1) (λ_ _=>rfl))))),?_⟩
  have g:=b.getKp k;refine⟨_,rfl,_,rfl,_,_,_,_,_,rfl,b.book,T.cl_Book,T.n_Book_kept_ticks,rfl,_,_,rfl,g,_,rfl,?_⟩;have tk:=Qo ok.out k;rw[e4] at tk;cases e:get B.kept k with
  |none=>
   rw[e] at tk;have:v.rest k=none:=by simpa using tk
   exact iteT ⟨_,rfl,_,rfl,hl,λy=>⟨by show 1<=sizeLine;decide,k0 this⟩⟩
  |some t=>
   rw[e] at g tk;cases e6:v.rest k with
   |none=>rw[e6] at tk;cases tk
   |some al=>
    rw[e6] at tk;have e7:al.tick=t:=by simpa using tk
    refine iteF ⟨_,rfl,_,_,_,_,_,rfl,b.book,T.cl_Book,T.n_Book_kept_ticks,rfl,_,rfl,_,_,rfl,g,?_⟩;rw[←e7];exact k1 al e6
def spBack(c:Cl)(NotThere:Addr):Sp:=λvs H Q E=>∃(H0:Hp) (p:Addr) (v:Vw) (k:Int),vs=[.ref p,.int k]/\BookAt c H0 H p v/\Lg k/\(v.wait k=none->v.rest k=none->E (.ref NotThere) none H)/\
 (∀al,v.wait k=some al->∀H',BookAt c H0 H' p {v with wait:=fput v.wait k none}->Q (.str al.name) H')/\
 ∀al,v.wait k=none->v.rest k=some al->∀H',BookAt c H0 H' p {v with rest:=fput v.rest k none}->Q (.str al.name) H'
theorem QV:FnScope ["book","number"] ["book","number"] (Zd Xs):=Zu
theorem Pj(T:Txt K mg a):FnOk P w K mg base (CXe P w) 6 a.f_take_back a.fd_take_back ["book","number"] (spBack (clOf a) a.C_NotThere):=by
 have G_stop_waiting:=Vi (P:=P) (w:=w) (base:=base) T;have G_forget:=Qq (P:=P) (w:=w) (base:=base) T;refine T.F_take_back.okE QV (λvs H Q E h=>?_) (λcdv A' outer s H vs Q E hr h=>?_)
 ·obtain⟨H0,p,v,k,rfl,_⟩:=h;rfl
 ·obtain⟨H0,p,v,k,rfl,⟨A,sl,B,rfl,b,ok,e1,e2,e3,e4⟩,hl,k0,k1,k2⟩:=h;have hu:=YK hr;refine⟨_,(Zh (ZG (Ug (pc_din hu (pv 1) (Zx (pv 0) rfl))) (Zf (ZH (ZA G_stop_waiting (hr.mono (by decide)) (by rfl) T.f_stop_waiting T.kp_stop_waiting T.B_stop_waiting .nil ZB (Za (pv 0) (Za (pv 1) Ze))))) (Zf (ZG (Ug (pc_din hu (pv 1) (Zx (pv 0) rfl))) (Zf (ZH (YT (Zx (pv 0) rfl) (pv 1) ⟨rfl,rfl,rfl,rfl⟩))) (Zf (Ve Sy rfl rfl T.c_NotThere T.x_NotThere (Za (VG (YX (Vg (pv 1) (YX Uu)))) Ze))))))
   (Zf (Zn (ZA G_forget (hr.mono (by decide)) (by rfl) T.f_forget T.kp_forget T.B_forget .nil ZB (Za (pv 0) (Za (pv 1) Ze)))))),?_⟩
  have g:=b.getT k;refine⟨_,rfl,_,rfl,_,_,_,_,_,rfl,b.book,T.cl_Book,T.n_Book_ticks,rfl,_,_,rfl,g,_,rfl,?_⟩;have tk:=ok.out.tick_of k;rw[e3] at tk;cases e:get B.ticks k with
  |some t=>
   obtain⟨nm,sp,hn,hs,hw⟩:=ok.out.waits e;rw[e3] at hw;refine iteT ⟨_,rfl,_,rfl,A,sl,H0,B,v.S,v.n,k,t,rfl,b,ok.geo,ok.rack,e,λH1 sl1 rows1 b1 l1 R1=>?_⟩;refine⟨_,rfl,_,rfl,A,sl1,H0,_,k,nm,sp,rfl,b1,hn,hs,λH2 b2=>?_⟩;refine k1 _ hw H2 ⟨A,sl1,_,rfl,b2,⟨ok.geo.up rfl rfl l1,?_,(ok.out.goneW e).rows rows1,ok.nn⟩,e1,e2,?_,?_⟩
   ·refine R1.congr λm=>?_;show gput (get B.ticks) k none m=get (drop B.ticks k) m;rw[Zy];rfl
   ·rw[←e3];exact wait_goneW (B:=B)
   ·rw[←e4];exact ok.out.rest_goneW e
  |none=>
   rw[e] at tk;have hwn:v.wait k=none:=by simpa using tk
   refine iteF ?_;have g2:=b.getKp k;refine⟨_,rfl,_,rfl,_,_,_,_,_,rfl,b.book,T.cl_Book,T.n_Book_kept_ticks,rfl,_,_,rfl,g2,_,rfl,?_⟩;have tr:=Qo ok.out k;rw[e4] at tr;cases e5:get B.kept k with
   |none=>
    rw[e5] at tr;have hrn:v.rest k=none:=by simpa using tr
    exact iteF ⟨_,rfl,_,rfl,hl,λy=>⟨by show 1<=sizeLine;decide,k0 hwn hrn⟩⟩
   |some t=>
    obtain⟨nm,sp,hn,hs,hw⟩:=ok.out.rests e5;rw[e4] at hw;refine iteT ⟨_,rfl,_,_,_,_,_,rfl,b.book,T.cl_Book,T.n_Book_kept_ticks,rfl,_,rfl,.inl ⟨_,.inl b.kept⟩,_,rfl,_,Sum.inl k,.int t,b.kept,rfl,(by rw[ZX,e5];rfl),?_⟩;have b1:=b.popK k;refine⟨_,rfl,_,rfl,A,sl,H0,_,k,nm,sp,rfl,b1,hn,hs,λH2 b2=>?_⟩;refine k2 _ hwn hw H2 ⟨A,sl,_,rfl,b2,⟨ok.geo.up rfl rfl rfl,ok.rack,ok.out.goneR e5,ok.nn⟩,e1,e2,?_,?_⟩
    ·rw[←e3];exact wait_goneR (B:=B) e
    ·rw[←e4];exact rest_goneR (B:=B)
def spMove(c:Cl)(NotThere Past:Addr):Sp:=λvs H Q E=>∃(H0:Hp) (p:Addr) (v:Vw) (k due:Int),vs=[.ref p,.int k,.int due]/\BookAt c H0 H p v/\Lg k/\Lg due/\(v.wait k=none->E (.ref NotThere) none H)/\
 (∀al,v.wait k=some al->due<=v.now->E (.ref Past) none H)/\∀al,v.wait k=some al->v.now<due->∀H',BookAt c H0 H' p {v with wait:=fput v.wait k (some ⟨al.name,due,al.step⟩)}->Q .non H'
theorem sc_move:FnScope ["book","number","due"] ["book","number","due"] (Zd Sj):=Zu
theorem gput_gput{f:Int->Option Int}{k:Int}{x y:Option Int}:gput (gput f k x) k y=gput f k y:=by
 funext m;unfold gput;by_cases e:m=k<;>simp[e]
theorem Uf{t:Dct Int}{k x m:Int}:get (put (drop t k) k x) m=get (put t k x) m:=by
 rw[ZD,ZD,Zy];by_cases e:m=k<;>simp[e]
theorem ok_move(T:Txt K mg a):FnOk P w K mg base (CXe P w) 6 a.f_move a.fd_move ["book","number","due"] (spMove (clOf a) a.C_NotThere a.C_Past):=by
 have G_Book_due:=VL (P:=P) (w:=w) (base:=base) T;have G_check_tick:=Ta (P:=P) (w:=w) (base:=base) T;have G_stop_waiting:=Vi (P:=P) (w:=w) (base:=base) T;have G_start_waiting:=YH (P:=P) (w:=w) (base:=base) T;refine T.F_move.okE sc_move (λvs H Q E h=>?_) (λcdv A' outer s H vs Q E hr h=>?_)
 ·obtain⟨H0,p,v,k,due,rfl,_⟩:=h;rfl
 ·obtain⟨H0,p,v,k,due,rfl,hb,hl1,hl2,k0,k1,k2⟩:=h;obtain⟨A,sl,B,rfl,b,ok,e1,e2,e3,e4⟩:=id hb;refine⟨_,(Zh (ZH (Yx (pv 0) T.cl_Book T.m_Book_due G_Book_due (hr.mono (by decide)) T.B_Book_due .nil Uv (Za (pv 1) Ze)))
   (Zh (ZH (ZA G_check_tick (hr.mono (by decide)) (by rfl) T.f_check_tick T.kp_check_tick T.B_check_tick .nil Uv (Za (pv 0) (Za (pv 2) Ze))))
   (Zh (ZH (ZA G_stop_waiting (hr.mono (by decide)) (by rfl) T.f_stop_waiting T.kp_stop_waiting T.B_stop_waiting .nil ZB (Za (pv 0) (Za (pv 1) Ze))))
   (Zf (ZH (ZA G_start_waiting (hr.mono (by decide)) (by rfl) T.f_start_waiting T.kp_start_waiting T.B_start_waiting .nil ZB (Za (pv 0) (Za (pv 1) (Za (pv 2) Ze))))))))),?_⟩
  refine⟨_,rfl,_,_,_,rfl,b.book,rfl,_,rfl,H0,_,v,k,rfl,hb,hl1,k0,λal hal=>?_⟩;refine⟨_,rfl,_,rfl,A,sl,H0,B,due,rfl,b,hl2,λz=>k1 al hal (by omega),λhd=>?_⟩;have hal':=hal;rw[←e3] at hal';obtain⟨hn,hs,ht⟩:=alarm_some.mp hal';refine⟨_,rfl,_,rfl,A,sl,H0,B,v.S,v.n,k,al.tick,rfl,b,ok.geo,ok.rack,ht,λH1 sl1 rows1 b1 l1 R1=>?_⟩;obtain⟨d1,d2⟩:=ok.out.domT ht;have nx:=ok.out.nx;have lns:=ok.out.lens;have ldr:(drop B.ticks k).length<=B.ticks.length:=List.length_filter_le _ _;refine⟨_,rfl,_,rfl,_,rfl,A,sl1,H0,_,v.S,v.n,k,due,gput (get B.ticks) k none,rfl,b1,ok.geo.up rfl rfl l1,R1,by unfold gput;rw[if_pos rfl],hd,d1,by omega,by show (drop B.ticks k).length<=1000;omega,λH2 sl2 rows2 b2 l2 R2=>?_⟩;have oM:=(ok.out.moveB ht due).sameT (t:=put (drop B.ticks k) k due) (Ya (ZL ok.out.ndT _) _ _) (λm=>Uf);refine k2 al hal (by omega) H2 ⟨A,sl2,_,rfl,b2,⟨ok.geo.up rfl rfl (l2.trans l1),?_,oM.rows rows2,ok.nn⟩,e1,e2,?_,e4⟩
  ·refine R2.congr λm=>?_;rw[gput_gput];show gput (get B.ticks) k (some due) m=get (put (drop B.ticks k) k due) m;rw[Uf,ZD];rfl
  ·rw[←e3,←wait_moveB hn hs];funext m;show ZW (get B.names m) (get B.steps m) (get (put (drop B.ticks k) k due) m)=ZW (get B.names m) (get B.steps m) (get (put B.ticks k due) m);rw[Uf]
def spRest(c:Cl)(NotThere:Addr):Sp:=λvs H Q E=>∃(H0:Hp) (p:Addr) (v:Vw) (k:Int),vs=[.ref p,.int k]/\BookAt c H0 H p v/\Lg k/\(v.wait k=none->E (.ref NotThere) none H)/\
 ∀al,v.wait k=some al->∀H',BookAt c H0 H' p {v with wait:=fput v.wait k none,rest:=fput v.rest k (some ⟨al.name,al.tick-v.now,al.step⟩)}->Q .non H'
theorem sc_rest:FnScope ["book","number","ticks_left"] ["book","number"] (Zd Si):=Zu
theorem ok_rest(T:Txt K mg a):FnOk P w K mg base (CXe P w) 6 a.f_rest a.fd_rest ["book","number"] (spRest (clOf a) a.C_NotThere):=by
 have G_Book_due:=VL (P:=P) (w:=w) (base:=base) T;have G_stop_waiting:=Vi (P:=P) (w:=w) (base:=base) T;refine T.F_rest.okE sc_rest (λvs H Q E h=>?_) (λcdv A' outer s H vs Q E hr h=>?_)
 ·obtain⟨H0,p,v,k,rfl,_⟩:=h;rfl
 ·obtain⟨H0,p,v,k,rfl,hb,hl1,k0,k2⟩:=h;obtain⟨A,sl,B,rfl,b,ok,e1,e2,e3,e4⟩:=id hb;have hu:=YK hr;refine⟨_,(Zh (Zw (i:=2) sc_rest.nd rfl (Or.inl rfl) (Zp Vy (Yx (pv 0) T.cl_Book T.m_Book_due G_Book_due (hr.mono (by decide)) T.B_Book_due .nil Uv (Za (pv 1) Ze)) (Zx (pv 0) rfl)))
   (Zh (ZH (ZA G_stop_waiting (hr.mono (by decide)) (by rfl) T.f_stop_waiting T.kp_stop_waiting T.B_stop_waiting .nil ZB (Za (pv 0) (Za (pv 1) Ze))))
   (Zf (YM hu (Zx (pv 0) rfl) (pv 1) (pv 2) rfl)))),?_⟩
  refine⟨_,rfl,_,_,_,rfl,b.book,rfl,_,rfl,H0,_,v,k,rfl,hb,hl1,k0,λal hal=>?_⟩;refine⟨_,rfl,_,_,_,_,_,rfl,b.book,T.cl_Book,T.n_Book_now,rfl,_,_,rfl,rfl,?_⟩;have hal':=hal;rw[←e3] at hal';obtain⟨hn,hs,ht⟩:=alarm_some.mp hal';refine⟨_,rfl,_,rfl,A,sl,H0,B,v.S,v.n,k,al.tick,rfl,b,ok.geo,ok.rack,ht,λH1 sl1 rows1 b1 l1 R1=>?_⟩;have lns:=ok.out.lens;refine⟨_,rfl,_,rfl,_,_,_,_,_,rfl,b1.book,T.cl_Book,T.n_Book_kept_ticks,rfl,_,rfl,_,_,rfl,b1.putKp k (al.tick-B.now) (by show B.kept.length<=1000;omega),?_⟩;have b2:=b1.wKept (put B.kept k (al.tick-B.now));have hah:=ok.rack.ahead k _ ht;refine k2 al hal _ ⟨A,sl1,_,rfl,b2,⟨ok.geo.up rfl rfl l1,?_,(ok.out.restB ht (left:=al.tick-B.now) (by omega)).rows rows1,ok.nn⟩,e1,e2,?_,?_⟩
  ·refine R1.congr λm=>?_;show gput (get B.ticks) k none m=get (drop B.ticks k) m;rw[Zy];rfl
  ·rw[←e3];exact wait_restB (B:=B) (left:=al.tick-B.now)
  ·rw[←e4,←e1];exact rest_restB (B:=B) hn hs
def spOn(c:Cl)(NotThere:Addr):Sp:=λvs H Q E=>∃(H0:Hp) (p:Addr) (v:Vw) (k:Int),vs=[.ref p,.int k]/\BookAt c H0 H p v/\Lg k/\(v.rest k=none->E (.ref NotThere) none H)/\
 ∀al,v.rest k=some al->∀H',BookAt c H0 H' p {v with rest:=fput v.rest k none,wait:=fput v.wait k (some ⟨al.name,v.now+al.tick,al.step⟩)}->Q .non H'
theorem sc_go_on:FnScope ["book","number","tick"] ["book","number"] (Zd UN):=Zu
theorem ok_go_on(T:Txt K mg a):FnOk P w K mg base (CXe P w) 5 a.f_go_on a.fd_go_on ["book","number"] (spOn (clOf a) a.C_NotThere):=by
 have G_Book_left:=TH (P:=P) (w:=w) (base:=base) T;have G_start_waiting:=YH (P:=P) (w:=w) (base:=base) T;refine T.F_go_on.okE sc_go_on (λvs H Q E h=>?_) (λcdv A' outer s H vs Q E hr h=>?_)
 ·obtain⟨H0,p,v,k,rfl,_⟩:=h;rfl
 ·obtain⟨H0,p,v,k,rfl,hb,hl1,k0,k2⟩:=h;obtain⟨A,sl,B,rfl,b,ok,e1,e2,e3,e4⟩:=id hb;refine⟨_,(Zh (Zw (i:=2) sc_go_on.nd rfl (Or.inl rfl) (Zp ZZ (Zx (pv 0) rfl) (Yx (pv 0) T.cl_Book T.m_Book_left G_Book_left (hr.mono (by decide)) T.B_Book_left .nil Uv (Za (pv 1) Ze))))
   (Zh (ZH (YT (Zx (pv 0) rfl) (pv 1) ⟨rfl,rfl,rfl,rfl⟩))
   (Zf (ZH (ZA G_start_waiting (hr.mono (by decide)) (by rfl) T.f_start_waiting T.kp_start_waiting T.B_start_waiting .nil ZB (Za (pv 0) (Za (pv 1) (Za (pv 2) Ze)))))))),?_⟩
  refine⟨_,rfl,_,_,_,_,_,rfl,b.book,T.cl_Book,T.n_Book_now,rfl,_,rfl,_,_,_,rfl,b.book,rfl,_,rfl,H0,_,v,k,rfl,hb,hl1,k0,λal hal=>?_⟩;have hal':=hal;rw[←e4] at hal';obtain⟨hn,hs,ht⟩:=alarm_some.mp hal';refine⟨_,_,rfl,rfl,?_⟩;refine⟨_,rfl,_,_,_,_,_,rfl,b.book,T.cl_Book,T.n_Book_kept_ticks,rfl,_,rfl,.inl ⟨_,.inl b.kept⟩,_,rfl,_,Sum.inl k,.int al.tick,b.kept,rfl,(by rw[ZX,ht];rfl),?_⟩;have b1:=b.popK k;have nx:=ok.out.nx;have lns:=ok.out.lens;have hkt:get B.ticks k=none:=by
   cases e:get B.ticks k with
   |none=>rfl
   |some t=>have:=ok.out.dis k (by rw[e];rfl);rw[ht] at this;cases this
  obtain⟨d1,d2⟩:=ok.out.dom k (ok.out.namesK (by rw[ht];rfl));have hp:=ok.out.kp k _ ht;refine⟨_,rfl,_,rfl,_,rfl,A,sl,H0,_,v.S,v.n,k,B.now+al.tick,get B.ticks,rfl,b1,ok.geo.up rfl rfl rfl,ok.rack,hkt,by show B.now<B.now+al.tick;omega,d1,by omega,by show B.ticks.length<=1000;omega,λH2 sl2 rows2 b2 l2 R2=>?_⟩;refine k2 al hal H2 ⟨A,sl2,_,rfl,b2,⟨ok.geo.up rfl rfl l2,?_,(ok.out.goB ht (B.now+al.tick)).rows rows2,ok.nn⟩,e1,e2,?_,?_⟩
  ·refine R2.congr λm=>?_;show gput (get B.ticks) k (some (B.now+al.tick)) m=get (put B.ticks k (B.now+al.tick)) m;rw[ZD];rfl
  ·rw[←e3,←e1];exact wait_goB (B:=B) hn hs
  ·rw[←e4];exact rest_goB (B:=B) (t:=B.now+al.tick)
end Tk
end
section
namespace Tk
open PySem L2 Mir Tb
inductive Deed where
 |set (due:Int) (step:Option Int) (name:Str)
 |pass (t:Int)
 |move (k due:Int)
 |back (k due:Int)
 |rest (k due:Int)
 |on (k due:Int)
inductive Ret where
 |int (i:Int)
 |str (x:Str)
 |non
 |rings (rs:List (Int×Int×Str))
inductive Does:Deed->Vw->Ret->Vw->Prop where
 |setNo {v:Vw} {due:Int} {step:Option Int} {name:Str}:(due<=v.now\/∃s,step=some s/\s<1)->Does (.set due step name) v (.str "past") v
 |setOk {v:Vw} {due:Int} {step:Option Int} {name:Str}:v.now<due->(∀s,step=some s->1<=s)->Does (.set due step name) v (.int v.next) {v with next:=v.next+1,wait:=fput v.wait v.next (some ⟨name,due,step⟩)}
 |passNo {v:Vw} {t:Int}:t<0->Does (.pass t) v (.str "past") v
 |passOk {v:Vw} {t:Int} {rs:List (Int×Int×Str)} {g:Fn Str}:0<=t->Runs (v.now+t) v.wait rs g->Does (.pass t) v (.rings rs) {v with now:=v.now+t,wait:=g}
 |moveNo {v:Vw} {k due:Int}:v.wait k=none->Does (.move k due) v (.str "there") v
 |moveNo2 {v:Vw} {k due:Int} {al:Al Str}:v.wait k=some al->due<=v.now->Does (.move k due) v (.str "past") v
 |moveOk {v:Vw} {k due:Int} {al:Al Str}:v.wait k=some al->v.now<due->Does (.move k due) v .non {v with wait:=fput v.wait k (some ⟨al.name,due,al.step⟩)}
 |backNo {v:Vw} {k due:Int}:v.wait k=none->v.rest k=none->Does (.back k due) v (.str "there") v
 |backW {v:Vw} {k due:Int} {al:Al Str}:v.wait k=some al->Does (.back k due) v (.str al.name) {v with wait:=fput v.wait k none}
 |backR {v:Vw} {k due:Int} {al:Al Str}:v.wait k=none->v.rest k=some al->Does (.back k due) v (.str al.name) {v with rest:=fput v.rest k none}
 |restNo {v:Vw} {k due:Int}:v.wait k=none->Does (.rest k due) v (.str "there") v
 |restOk {v:Vw} {k due:Int} {al:Al Str}:v.wait k=some al->Does (.rest k due) v .non {v with wait:=fput v.wait k none,rest:=fput v.rest k (some ⟨al.name,al.tick-v.now,al.step⟩)}
 |onNo {v:Vw} {k due:Int}:v.rest k=none->Does (.on k due) v (.str "there") v
 |onOk {v:Vw} {k due:Int} {al:Al Str}:v.rest k=some al->Does (.on k due) v .non {v with rest:=fput v.rest k none,wait:=fput v.wait k (some ⟨al.name,v.now+al.tick,al.step⟩)}
theorem Does.unique{d:Deed}{v v1 v2:Vw}{r1 r2:Ret}(a:Does d v r1 v1)(b:Does d v r2 v2):r1=r2/\v1=v2:=by
 cases a with
 |setNo h=>
  cases b with
  |setNo _=>exact⟨rfl,rfl⟩
  |setOk h1 h2=>
   rcases h with h|⟨s,e,h⟩
   ·omega
   ·have:=h2 s e;omega
 |setOk h1 h2=>
  cases b with
  |setNo h=>
   rcases h with h|⟨s,e,h⟩
   ·omega
   ·have:=h2 s e;omega
  |setOk _ _=>exact⟨rfl,rfl⟩
 |passNo h=>
  cases b with
  |passNo _=>exact⟨rfl,rfl⟩
  |passOk h1 _=>omega
 |passOk h r=>
  cases b with
  |passNo _=>omega
  |passOk _ r'=>
   obtain⟨rfl,rfl⟩:=r.unique r';exact⟨rfl,rfl⟩
 |moveNo h=>
  cases b with
  |moveNo _=>exact⟨rfl,rfl⟩
  |moveNo2 e _=>rw[h] at e;cases e
  |moveOk e _=>rw[h] at e;cases e
 |moveNo2 h h1=>
  cases b with
  |moveNo e=>rw[h] at e;cases e
  |moveNo2 _ _=>exact⟨rfl,rfl⟩
  |moveOk _ h2=>omega
 |moveOk h h1=>
  cases b with
  |moveNo e=>rw[h] at e;cases e
  |moveNo2 _ h2=>omega
  |moveOk e _=>rw[h] at e;cases e;exact⟨rfl,rfl⟩
 |backNo h h1=>
  cases b with
  |backNo _ _=>exact⟨rfl,rfl⟩
  |backW e=>rw[h] at e;cases e
  |backR _ e=>rw[h1] at e;cases e
 |backW h=>
  cases b with
  |backNo e _=>rw[h] at e;cases e
  |backW e=>rw[h] at e;cases e;exact⟨rfl,rfl⟩
  |backR e _=>rw[h] at e;cases e
 |backR h h1=>
  cases b with
  |backNo _ e=>rw[h1] at e;cases e
  |backW e=>rw[h] at e;cases e
  |backR _ e=>rw[h1] at e;cases e;exact⟨rfl,rfl⟩
 |restNo h=>
  cases b with
  |restNo _=>exact⟨rfl,rfl⟩
  |restOk e=>rw[h] at e;cases e
 |restOk h=>
  cases b with
  |restNo e=>rw[h] at e;cases e
  |restOk e=>rw[h] at e;cases e;exact⟨rfl,rfl⟩
 |onNo h=>
  cases b with
  |onNo _=>exact⟨rfl,rfl⟩
  |onOk e=>rw[h] at e;cases e
 |onOk h=>
  cases b with
  |onNo e=>rw[h] at e;cases e
  |onOk e=>rw[h] at e;cases e;exact⟨rfl,rfl⟩
structure AlOk(a:Al Str):Prop where
 nm:PyData.strOk a.name=true
 st:∀s,a.step=some s->0<s/\s<2 ^ 100
structure LOk(j:Nat)(v:Vw):Prop where
 j24:j<=24
 sl:2<=v.S/\v.S<=64
 now:0<=v.now/\v.now<=j * 10000000000000
 next:0<=v.next/\v.next<=j
 wait:∀k a,v.wait k=some a->(0<=k/\k<v.next)/\v.now<a.tick/\AlOk a
 rest:∀k a,v.rest k=some a->(0<=k/\k<v.next)/\0<a.tick/\AlOk a
def RW(v:Vw):Deed->Prop
 | .set due step name=>Lg due/\(∀s,step=some s->s<2 ^ 100/\Lg s)/\PyData.strOk name=true
 | .pass t=>Lg t/\t<=10000000000000/\(0<=t->muF (v.now+t) 63 v.wait<=1000000)
 | .move k due=>Lg k/\Lg due
 | .back k _=>Lg k
 | .rest k _=>Lg k
 | .on k _=>Lg k
def RetOk:Ret->Prop
 | .str x=>PyData.strOk x=true
 | .rings rs=>∀r∈rs,PyData.strOk r.2.2=true
 |_=>True
theorem after_al{a b:Al Str}(h:after a=some b):b.name=a.name/\b.step=a.step:=by
 unfold after at h;cases hs:a.step with
 |none=>rw[hs] at h;cases h
 |some k=>rw[hs] at h;cases h;exact⟨rfl,rfl⟩
theorem runs_al{goal:Int}{f g:Fn Str}{rs:List (Int×Int×Str)}(h:Runs goal f rs g):(∀k b,g k=some b->∃a,f k=some a/\b.name=a.name/\b.step=a.step)/\∀r∈rs,∃k a,f k=some a/\r.2.2=a.name:=by
 induction h with
 |stop _=>exact⟨λk b e=>⟨b,e,rfl,rfl⟩,λr hr=>by cases hr⟩
 | @ring f g n a l nx r ih=>
  have back:∀k b,fput f n (after a) k=some b->∃a,f k=some a/\b.name=a.name/\b.step=a.step:=λk b e=>by
   by_cases hk:k=n
   ·subst hk;rw[Ym] at e;exact⟨a,nx.there,after_al e⟩
   ·rw[Xi _ _ hk] at e;exact⟨b,e,rfl,rfl⟩
  refine⟨λk b e=>?_,λr hr=>?_⟩
  ·obtain⟨c,h1,h2,h3⟩:=ih.1 k b e;obtain⟨d,h4,h5,h6⟩:=back k c h1;exact⟨d,h4,h2.trans h5,h3.trans h6⟩
  ·rcases List.mem_cons.mp hr with e|hr
   ·subst e;exact⟨n,a,nx.there,rfl⟩
   ·obtain⟨k,c,h1,h2⟩:=ih.2 r hr;obtain⟨d,h4,h5,_⟩:=back k c h1;exact⟨k,d,h4,h2.trans h5⟩
theorem LOk.up{j:Nat}{v:Vw}(o:LOk j v)(h:j<24):LOk (j+1) v:=by
 have n1:=o.now;have n2:=o.next;exact⟨by omega,o.sl,⟨n1.1,by omega⟩,⟨n2.1,by omega⟩,o.wait,o.rest⟩
theorem LOk.does{j:Nat}{v v':Vw}{d:Deed}{r:Ret}(o:LOk j v)(hj:j<24)(dk:RW v d)(h:Does d v r v')(okP:PyData.strOk "past"=true)(okT:PyData.strOk "there"=true):LOk (j+1) v'/\RetOk r:=by
 have n1:=o.now;have n2:=o.next;have u:=o.up hj;cases h with
 |setNo _=>exact⟨u,okP⟩
 | @setOk _ due step name h1 h2=>
  refine⟨⟨by omega,o.sl,⟨n1.1,by show v.now<=_;omega⟩,⟨by show 0<=v.next+1;omega,by show v.next+1<=_;omega⟩,λk a e=>?_,λk a e=>?_⟩,trivial⟩
  ·by_cases hk:k=v.next
   ·subst hk;have e':fput v.wait v.next (some ⟨name,due,step⟩) v.next=some a:=e;rw[Ym] at e';cases e';exact⟨⟨n2.1,by show v.next<v.next+1;omega⟩,h1,dk.2.2,λs hs=>⟨by have:=h2 s hs;omega,(dk.2.1 s hs).1⟩⟩
   ·have e':fput v.wait v.next (some ⟨name,due,step⟩) k=some a:=e;rw[Xi _ _ hk] at e';obtain⟨w1,w2⟩:=o.wait k a e';exact⟨⟨w1.1,by show k<v.next+1;omega⟩,w2⟩
  ·obtain⟨w1,w2⟩:=o.rest k a e;exact⟨⟨w1.1,by show k<v.next+1;omega⟩,w2⟩
 |passNo _=>exact⟨u,okP⟩
 | @passOk _ t rs g h1 h2=>
  obtain⟨_,dk2,_⟩:=dk;obtain⟨r1,r2⟩:=runs_al h2;refine⟨⟨by omega,o.sl,⟨by show 0<=v.now+t;omega,by show v.now+t<=_;omega⟩,⟨n2.1,by show v.next<=_;omega⟩,λk a e=>?_,o.rest⟩,λr hr=>?_⟩
  ·obtain⟨b,e1,e2,e3⟩:=r1 k a e;obtain⟨w1,w2,w3⟩:=o.wait k b e1;exact⟨w1,h2.end k a e,by rw[e2];exact w3.nm,λs hs=>w3.st s (by rw[←e3];exact hs)⟩
  ·obtain⟨k,a,e1,e2⟩:=r2 r hr;rw[e2];exact(o.wait k a e1).2.2.nm
 |moveNo _=>exact⟨u,okT⟩
 |moveNo2 _ _=>exact⟨u,okP⟩
 | @moveOk _ k due al h1 h2=>
  obtain⟨w1,w2,w3⟩:=o.wait k al h1;refine⟨⟨u.j24,u.sl,u.now,u.next,λk' a e=>?_,o.rest⟩,trivial⟩;have e':fput v.wait k (some ⟨al.name,due,al.step⟩) k'=some a:=e;by_cases hk:k'=k
  ·subst hk;rw[Ym] at e';cases e';exact⟨w1,h2,w3.nm,w3.st⟩
  ·rw[Xi _ _ hk] at e';exact o.wait k' a e'
 |backNo _ _=>exact⟨u,okT⟩
 | @backW _ k due al h1=>
  obtain⟨w1,w2,w3⟩:=o.wait k al h1;refine⟨⟨u.j24,u.sl,u.now,u.next,λk' a e=>?_,o.rest⟩,w3.nm⟩;have e':fput v.wait k none k'=some a:=e;by_cases hk:k'=k
  ·subst hk;rw[Ym] at e';cases e'
  ·rw[Xi _ _ hk] at e';exact o.wait k' a e'
 | @backR _ k due al h0 h1=>
  obtain⟨w1,w2,w3⟩:=o.rest k al h1;refine⟨⟨u.j24,u.sl,u.now,u.next,o.wait,λk' a e=>?_⟩,w3.nm⟩;have e':fput v.rest k none k'=some a:=e;by_cases hk:k'=k
  ·subst hk;rw[Ym] at e';cases e'
  ·rw[Xi _ _ hk] at e';exact o.rest k' a e'
 |restNo _=>exact⟨u,okT⟩
 | @restOk _ k due al h1=>
  obtain⟨w1,w2,w3⟩:=o.wait k al h1;refine⟨⟨u.j24,u.sl,u.now,u.next,λk' a e=>?_,λk' a e=>?_⟩,trivial⟩
  ·have e':fput v.wait k none k'=some a:=e;by_cases hk:k'=k
   ·subst hk;rw[Ym] at e';cases e'
   ·rw[Xi _ _ hk] at e';exact o.wait k' a e'
  ·have e':fput v.rest k (some ⟨al.name,al.tick-v.now,al.step⟩) k'=some a:=e;by_cases hk:k'=k
   ·subst hk;rw[Ym] at e';cases e';exact⟨w1,by show 0<al.tick-v.now;omega,w3.nm,w3.st⟩
   ·rw[Xi _ _ hk] at e';exact o.rest k' a e'
 |onNo _=>exact⟨u,okT⟩
 | @onOk _ k due al h1=>
  obtain⟨w1,w2,w3⟩:=o.rest k al h1;refine⟨⟨u.j24,u.sl,u.now,u.next,λk' a e=>?_,λk' a e=>?_⟩,trivial⟩
  ·have e':fput v.wait k (some ⟨al.name,v.now+al.tick,al.step⟩) k'=some a:=e;by_cases hk:k'=k
   ·subst hk;rw[Ym] at e';cases e';exact⟨w1,by show v.now<v.now+al.tick;omega,w3.nm,w3.st⟩
   ·rw[Xi _ _ hk] at e';exact o.wait k' a e'
  ·have e':fput v.rest k none k'=some a:=e;by_cases hk:k'=k
   ·subst hk;rw[Ym] at e';cases e'
   ·rw[Xi _ _ hk] at e';exact o.rest k' a e'
theorem LOk.good{j:Nat}{v:Vw}(o:LOk j v):GoodF 63 v.wait:=λk a e=>by
 obtain⟨w1,w2,w3⟩:=o.wait k a e;have:=o.next;have:=o.j24;exact⟨⟨w1.1,by omega⟩,λs hs=>(w3.st s hs).1⟩
theorem Qs{goal:Int}{f:Fn Str}{m:Nat}(h:∀k a,f k=some a->cnt goal a<=m)(N:Nat):muF goal N f<=N * m:=by
 unfold muF;induction N with
 |zero=>exact Nat.zero_le _
 |succ N ih=>
  rw[List.range_succ,List.map_append,List.sum_append];have:cntO goal (f (N:Int))<=m:=by
   cases e:f (N:Int) with
   |none=>exact Nat.zero_le _
   |some al=>exact h _ _ e
  simp only[List.map_cons,List.map_nil,List.sum_cons,List.sum_nil];rw[Nat.succ_mul];omega
theorem cnt_few{now t:Int}{a:Al Str}(ah:now<a.tick)(h0:0<=t)(h:∀s,a.step=some s->0<s/\t/s<=60):cnt (now+t) a<=61:=by
 unfold cnt;by_cases hd:a.tick<=now+t
 ·rw[if_pos hd];cases hs:a.step with
  |none=>show 1<=61;decide
  |some s=>
   obtain⟨h1,h2⟩:=h s hs;show ((now+t-a.tick)/s+1).toNat<=61;have:(now+t-a.tick)/s<=t/s:=Int.ediv_le_ediv h1 (by omega);omega
 ·rw[if_neg hd];exact Nat.zero_le _
theorem mu_few{v:Vw}{t:Int}{j:Nat}(o:LOk j v)(h:∀k a s,v.wait k=some a->a.step=some s->t/s<=60)(h0:0<=t):muF (v.now+t) 63 v.wait<=1000000:=by
 refine Nat.le_trans (Qs (m:=61) (λk a e=>?_) 63) (by decide);obtain⟨w1,w2,w3⟩:=o.wait k a e;exact cnt_few w2 h0 λs hs=>⟨(w3.st s hs).1,h k a s e hs⟩
theorem div_small{t s:Int}(h0:0<=t)(h1:t<30)(hs:0<s):t/s<=60:=by
 have:t/s<=t:=Int.ediv_le_self _ h0;omega
theorem sum_each{l:List Int}{m:Int}(h:∀x∈l,0<=x)(hm:l.sum<=m):∀x∈l,x<=m:=by
 induction l generalizing m with
 |nil=>intro x hx;cases hx
 |cons y l ih=>
  rw[List.sum_cons] at hm;have hy:=h y List.mem_cons_self;have hl:∀x∈l,0<=x:=λx hx=>h x (List.mem_cons_of_mem _ hx);have hs:0<=l.sum:=by
   clear ih hm;induction l with
   |nil=>decide
   |cons z l ih2=>
    rw[List.sum_cons];have:=hl z List.mem_cons_self;have:=ih2 (λx hx=>by
     rcases List.mem_cons.mp hx with e|hx
     ·exact e▸hy
     ·exact h x (List.mem_cons_of_mem _ (List.mem_cons_of_mem _ hx))) λx hx=>hl x (List.mem_cons_of_mem _ hx)
    omega
  intro x hx;rcases List.mem_cons.mp hx with e|hx
  ·subst e;omega
  ·exact ih hl (by omega) x hx
end Tk
end
section
namespace Tk
open PySem L2 Mir Rk Tb
open PyProof.Rows (boot_sorted boot_min boot_enumerate boot_isinstance boot_sum boot_max)
variable {P:Program}{w:World}{K:W.Frag}{mg:Str->Option Value}{base:Heap}{a:Ad}
theorem XM{x:Int}(h1: -(2 ^ 100)<x)(h2:x<2 ^ 100):Lg x:=by
 unfold Lg;by_cases hz:x.natAbs=0
 ·rw[hz];decide
 ·have h:x.natAbs<2 ^ 100:=by omega
  exact Nat.lt_trans ((Nat.log2_lt hz).mpr h) (by decide)
theorem pick{xs:List V}{i:Int}(h0:0<=i)(h1:i<(xs.length:Int)):∃v,atI xs i=some v/\v∈xs:=by
 obtain⟨j,rfl⟩:∃j:Nat,i=(j:Int):=⟨i.toNat,(Int.toNat_of_nonneg h0).symm⟩;have hj:j<xs.length:=by omega
 exact⟨xs[j],atI_nat (by simp[hj]),List.getElem_mem hj⟩
theorem pickI{ns:List Int}{i:Int}(h0:0<=i)(h1:i<(ns.length:Int)):∃x,atI (ns.map V.int) i=some (V.int x)/\x∈ns:=by
 obtain⟨v,h2,h3⟩:=pick (xs:=ns.map V.int) h0 (by simpa using h1);obtain⟨x,hx,rfl⟩:=List.mem_map.mp h3;exact⟨x,h2,hx⟩
theorem pickS{ns:List Str}{i:Int}(h0:0<=i)(h1:i<(ns.length:Int)):∃x,atI (ns.map V.str) i=some (V.str x)/\x∈ns:=by
 obtain⟨v,h2,h3⟩:=pick (xs:=ns.map V.str) h0 (by simpa using h1);obtain⟨x,hx,rfl⟩:=List.mem_map.mp h3;exact⟨x,h2,hx⟩
theorem BookAt.ob{c:Cl}{H0 H:Hp}{p:Addr}{v:Vw}(b:BookAt c H0 H p v):∃dx r x y n1 n2 n3 n4,H p=some (.ins c.Book dx (SK r x y n1 n2 n3 n4)):=by
 obtain⟨A,sl,B,rfl,b,_⟩:=b;exact⟨_,_,_,_,_,_,_,_,b.book⟩
theorem BookAt.same{c:Cl}{H0 H:Hp}{p:Addr}{v:Vw}(b:BookAt c H0 H p v):Same H0 H:=by
 obtain⟨A,sl,B,_,b,_⟩:=b;exact b.same
theorem BookAt.weak{c:Cl}{H0 H1 H:Hp}{p:Addr}{v:Vw}(b:BookAt c H0 H p v)(s:Same H1 H0):BookAt c H1 H p v:=by
 obtain⟨A,sl,B,e,b,r⟩:=b;exact⟨A,sl,B,e,b.weak s,r⟩
theorem BookAt.up{c:Cl}{H0 H H':Hp}{p:Addr}{v:Vw}(b:BookAt c H0 H p v)(s:Same H H'):BookAt c H0 H' p v:=by
 obtain⟨A,sl,B,e,b,r⟩:=b;exact⟨A,sl,B,e,b.up s,r⟩
theorem BookAt.out{c:Cl}{H0 H:Hp}{p:Addr}{v:Vw}(b:BookAt c H0 H p v){x:Addr}{o:HO}(hx:H x=none\/∃u,H0 x=some u):BookAt c (upd H0 x o) (upd H x o) p v:=by
 obtain⟨A,sl,B,e,b,r⟩:=b;exact⟨A,sl,B,e,b.out hx,r⟩
structure Fr(W:List Addr)(H0 H H0' H':Hp):Prop where
 same:Same H0' H'
 keep:∀x o,x∉W->H0 x=some o->H0' x=some o
 own:∀x o,H x=some o->H0 x=none->H' x=some o/\H0' x=none
theorem Fr.refl{W:List Addr}{H0 H:Hp}(s:Same H0 H):Fr W H0 H H0 H:=⟨s,λ_ _ _ h=>h,λ_ _ h h0=>⟨h,h0⟩⟩
theorem Fr.trans{W:List Addr}{H0 H H1 H1' H2 H2':Hp}(a:Fr W H0 H H1 H1')(b:Fr W H1 H1' H2 H2'):Fr W H0 H H2 H2':=
 ⟨b.same,λx o hx h=>b.keep x o hx (a.keep x o hx h),λx o h h0=>by
  obtain⟨u,u0⟩:=a.own x o h h0;exact b.own x o u u0⟩
theorem ZV{H0 H:Hp}(s:Same H0 H)(x:Addr)(o:HO):Same (upd H0 x o) (upd H x o):=λy u h=>by
 by_cases z:y=x
 ·subst z;rw[Zb] at h ⊢;exact h
 ·rw[Zc z] at h ⊢;exact s y u h
theorem Fr.new{W:List Addr}{H0 H:Hp}(s:Same H0 H){x:Addr}{o:HO}(h:H x=none):Fr W H0 H (upd H0 x o) (upd H x o):=
 ⟨ZV s x o,λy u _ hy=>by rw[Zc (Zt hy (s.free h))];exact hy,λy u hy h0=>by
  rw[Zc (Zt hy h),Zc (Zt hy h)];exact⟨hy,h0⟩⟩
theorem Fr.wr{W:List Addr}{H0 H:Hp}(s:Same H0 H){x:Addr}{o u:HO}(hx:H0 x=some u)(hw:x∈W):Fr W H0 H (upd H0 x o) (upd H x o):=
 ⟨ZV s x o,λy u hy h=>by rw[Zc (λz:y=x=>hy (by rw[z];exact hw))];exact h,λy u hy h0=>by
  have ne:y≠x:=λz=>by rw[z,hx] at h0;cases h0
  rw[Zc ne,Zc ne];exact⟨hy,h0⟩⟩
theorem Fr.wide{W:List Addr}{H0 H H0' H':Hp}(f:Fr [] H0 H H0' H'):Fr W H0 H H0' H':=⟨f.same,λx o _ h=>f.keep x o (by simp) h,f.own⟩
theorem Fr.grow{H0 H H0' H':Hp}(f:Fr [] H0 H H0' H'):Same H0 H0':=λx o h=>f.keep x o (by simp) h
theorem BookAt.fr{c:Cl}{W:List Addr}{H0 H H0' H':Hp}{p:Addr}{v:Vw}(b:BookAt c H0 H p v)(f:Fr W H0 H H0' H'):BookAt c H0' H' p v:=by
 obtain⟨A,sl,B,e,b,r⟩:=b;exact⟨A,sl,B,e,⟨f.same,λl o h=>(f.own _ _ (b.here l o h) (b.free l o h)).2,λl o h=>(f.own _ _ (b.here l o h) (b.free l o h)).1,b.inj⟩,r⟩
abbrev TabA:=Dct (Addr×Al Str)
noncomputable def tabV(t:TabA):List (Key×V):=mapK (λ_ x=>V.ref x.1) t
noncomputable def alV(a:Al Str):List V:=[.str a.name,.int a.tick,XG a.step]
noncomputable def fnT(t:TabA):Fn Str:=λk=>(get t k).map (·.2)
noncomputable def wdV(v:Vw)(dw dr:Addr):List (Key×V):=[(Sum.inr "slots",.int v.S),(Sum.inr "levels",.int v.n),(Sum.inr "now",.int v.now),(Sum.inr "many",.int v.next),(Sum.inr "waits",.ref dw),(Sum.inr "rests",.ref dr)]
structure WAt(H:Hp)(q dw dr:Addr)(tw tr:TabA)(v:Vw):Prop where
 top:H q=some (.dK (wdV v dw dr))
 wts:H dw=some (.dK (tabV tw))
 rts:H dr=some (.dK (tabV tr))
 aw:∀p∈tw,H p.2.1=some (.tup (alV p.2.2))
 ar:∀p∈tr,H p.2.1=some (.tup (alV p.2.2))
 n1:q≠dw
 n2:q≠dr
 n3:dw≠dr
 ndw:(keys tw).Nodup
 ndr:(keys tr).Nodup
 ew:fnT tw=v.wait
 er:fnT tr=v.rest
theorem Re(t:TabA)(k:Int)(x:Addr×Al Str):fnT (put t k x)=fput (fnT t) k (some x.2):=by
 funext m;show (get (put t k x) m).map (·.2)=if m=k then some x.2 else (get t m).map (·.2)
 rw[ZD];by_cases e:m=k<;>simp[e]
theorem Ub(t:TabA)(k:Int):fnT (drop t k)=fput (fnT t) k none:=by
 funext m;show (get (drop t k) m).map (·.2)=if m=k then none else (get t m).map (·.2)
 rw[Zy];by_cases e:m=k<;>simp[e]
theorem TV{t:TabA}{k:Int}{a:Al Str}(h:fnT t k=some a):∃x,get t k=some (x,a):=by
 have h':(get t k).map (·.2)=some a:=h;cases e:get t k with
 |none=>rw[e] at h';cases h'
 |some y=>
  rw[e] at h';cases h';exact⟨y.1,rfl⟩
theorem fnT_none{t:TabA}{k:Int}(h:fnT t k=none):get t k=none:=by
 have h':(get t k).map (·.2)=none:=h;cases e:get t k with
 |none=>rfl
 |some y=>rw[e] at h';cases h'
theorem mem_put{α:Type}{t:Dct α}{k:Int}{x:α}{p:Int×α}(h:p∈put t k x):p∈t\/p=(k,x):=by
 unfold put at h;by_cases c:(t.any λp=>decide (p.1=k))=true
 ·rw[if_pos c] at h;obtain⟨y,hy,e⟩:=List.mem_map.mp h;by_cases ek:y.1=k
  ·rw[if_pos ek] at e;exact .inr (by rw[←e,ek])
  ·rw[if_neg ek] at e;exact .inl (e▸hy)
 ·rw[if_neg c] at h;rcases List.mem_append.mp h with h|h
  ·exact .inl h
  ·exact .inr (by simpa using h)
theorem mem_drop{α:Type}{t:Dct α}{k:Int}{p:Int×α}(h:p∈drop t k):p∈t:=(List.mem_filter.mp h).1
section
variable {v:Vw}{dw dr:Addr}
theorem wd_slots:valV (wdV v dw dr) (Sum.inr "slots")=some (.int v.S):=by kernel_rfl
theorem wd_now:valV (wdV v dw dr) (Sum.inr "now")=some (.int v.now):=by kernel_rfl
theorem wd_many:valV (wdV v dw dr) (Sum.inr "many")=some (.int v.next):=by kernel_rfl
theorem Rl:valV (wdV v dw dr) (Sum.inr "waits")=some (.ref dw):=by kernel_rfl
theorem wd_rests:valV (wdV v dw dr) (Sum.inr "rests")=some (.ref dr):=by kernel_rfl
theorem wd_pnow{x:Int}:putK (wdV v dw dr) (Sum.inr "now") (.int x)=wdV {v with now:=x} dw dr:=by kernel_rfl
theorem wd_pmany{x:Int}:putK (wdV v dw dr) (Sum.inr "many") (.int x)=wdV {v with next:=x} dw dr:=by kernel_rfl
end
section
variable {H H1:Hp}{q dw dr:Addr}{tw tr:TabA}{v:Vw}
theorem WAt.up(w:WAt H q dw dr tw tr v)(s:Same H H1):WAt H1 q dw dr tw tr v:=
 ⟨s _ _ w.top,s _ _ w.wts,s _ _ w.rts,λp h=>s _ _ (w.aw p h),λp h=>s _ _ (w.ar p h),w.n1,w.n2,w.n3,w.ndw,w.ndr,w.ew,w.er⟩
theorem WAt.gSlots(w:WAt H q dw dr tw tr v):DGet H q (.str "slots") (some (.int v.S)):=wd_slots (v:=v) (dw:=dw) (dr:=dr)▸DGet.k (k:=Sum.inr "slots") w.top
theorem WAt.gNow(w:WAt H q dw dr tw tr v):DGet H q (.str "now") (some (.int v.now)):=wd_now (v:=v) (dw:=dw) (dr:=dr)▸DGet.k (k:=Sum.inr "now") w.top
theorem WAt.gMany(w:WAt H q dw dr tw tr v):DGet H q (.str "many") (some (.int v.next)):=wd_many (v:=v) (dw:=dw) (dr:=dr)▸DGet.k (k:=Sum.inr "many") w.top
theorem WAt.gWaits(w:WAt H q dw dr tw tr v):DGet H q (.str "waits") (some (.ref dw)):=Rl (v:=v) (dw:=dw) (dr:=dr)▸DGet.k (k:=Sum.inr "waits") w.top
theorem WAt.gRests(w:WAt H q dw dr tw tr v):DGet H q (.str "rests") (some (.ref dr)):=wd_rests (v:=v) (dw:=dw) (dr:=dr)▸DGet.k (k:=Sum.inr "rests") w.top
theorem WAt.gW(w:WAt H q dw dr tw tr v)(k:Int):DGet H dw (.int k) ((get tw k).map λx=>.ref x.1):=by
 have:=DGet.k (k:=Sum.inl k) w.wts;unfold tabV at this;rw[ZX] at this;exact this
theorem WAt.gR(w:WAt H q dw dr tw tr v)(k:Int):DGet H dr (.int k) ((get tr k).map λx=>.ref x.1):=by
 have:=DGet.k (k:=Sum.inl k) w.rts;unfold tabV at this;rw[ZX] at this;exact this
theorem WAt.vW(w:WAt H q dw dr tw tr v){k:Int}{x:Addr×Al Str}(h:get tw k=some x):valV (tabV tw) (Sum.inl k)=some (.ref x.1):=by
 unfold tabV;rw[ZX,h];rfl
theorem WAt.vR(w:WAt H q dw dr tw tr v){k:Int}{x:Addr×Al Str}(h:get tr k=some x):valV (tabV tr) (Sum.inl k)=some (.ref x.1):=by
 unfold tabV;rw[ZX,h];rfl
theorem WAt.pNow(w:WAt H q dw dr tw tr v)(x:Int):DPut H q (.str "now") (.int x) (upd H q (.dK (wdV {v with now:=x} dw dr))):=by
 rw[←wd_pnow];exact DPut.k (k:=Sum.inr "now") w.top (by show 6<sizeLine;decide)
theorem WAt.pMany(w:WAt H q dw dr tw tr v)(x:Int):DPut H q (.str "many") (.int x) (upd H q (.dK (wdV {v with next:=x} dw dr))):=by
 rw[←wd_pmany];exact DPut.k (k:=Sum.inr "many") w.top (by show 6<sizeLine;decide)
theorem WAt.pW(w:WAt H q dw dr tw tr v)(k:Int)(x:Addr)(a:Al Str)(hl:tw.length<=1000):DPut H dw (.int k) (.ref x) (upd H dw (.dK (tabV (put tw k (x,a))))):=by
 have e:putK (tabV tw) (Sum.inl k) (.ref x)=tabV (put tw k (x,a)):=XZ (λ_ (x:Addr×Al Str)=>V.ref x.1) tw k (x,a);rw[←e];exact DPut.k (k:=Sum.inl k) w.wts (by unfold tabV;rw[YJ];have:(1001:Nat)<=sizeLine:=(by decide);omega)
theorem WAt.pR(w:WAt H q dw dr tw tr v)(k:Int)(x:Addr)(a:Al Str)(hl:tr.length<=1000):DPut H dr (.int k) (.ref x) (upd H dr (.dK (tabV (put tr k (x,a))))):=by
 have e:putK (tabV tr) (Sum.inl k) (.ref x)=tabV (put tr k (x,a)):=XZ (λ_ (x:Addr×Al Str)=>V.ref x.1) tr k (x,a);rw[←e];exact DPut.k (k:=Sum.inl k) w.rts (by unfold tabV;rw[YJ];have:(1001:Nat)<=sizeLine:=(by decide);omega)
theorem WAt.wTop(w:WAt H q dw dr tw tr v){v':Vw}(h1:v'.wait=v.wait)(h2:v'.rest=v.rest):WAt (upd H q (.dK (wdV v' dw dr))) q dw dr tw tr v':=by
 have nt:∀{x:Addr} {xs:List V},H x=some (.tup xs)->x≠q:=λh z=>by rw[z,w.top] at h;cases h
 refine⟨Zb,by rw[Zc w.n1.symm];exact w.wts,by rw[Zc w.n2.symm];exact w.rts,λp h=>?_,λp h=>?_,w.n1,w.n2,w.n3,w.ndw,w.ndr,w.ew.trans h1.symm,w.er.trans h2.symm⟩
 ·rw[Zc (nt (w.aw p h))];exact w.aw p h
 ·rw[Zc (nt (w.ar p h))];exact w.ar p h
theorem WAt.wW(w:WAt H q dw dr tw tr v){t:TabA}(nd:(keys t).Nodup)(h:∀p∈t,H p.2.1=some (.tup (alV p.2.2))){f:Fn Str}(hf:fnT t=f):WAt (upd H dw (.dK (tabV t))) q dw dr t tr {v with wait:=f}:=by
 have nt:∀{x:Addr} {xs:List V},H x=some (.tup xs)->x≠dw:=λh z=>by rw[z,w.wts] at h;cases h
 refine⟨by rw[Zc w.n1];exact w.top,Zb,by rw[Zc w.n3.symm];exact w.rts,λp hp=>?_,λp hp=>?_,w.n1,w.n2,w.n3,nd,w.ndr,hf,w.er⟩
 ·rw[Zc (nt (h p hp))];exact h p hp
 ·rw[Zc (nt (w.ar p hp))];exact w.ar p hp
theorem WAt.wR(w:WAt H q dw dr tw tr v){t:TabA}(nd:(keys t).Nodup)(h:∀p∈t,H p.2.1=some (.tup (alV p.2.2))){f:Fn Str}(hf:fnT t=f):WAt (upd H dr (.dK (tabV t))) q dw dr tw t {v with rest:=f}:=by
 have nt:∀{x:Addr} {xs:List V},H x=some (.tup xs)->x≠dr:=λh z=>by rw[z,w.rts] at h;cases h
 refine⟨by rw[Zc w.n2];exact w.top,by rw[Zc w.n3];exact w.wts,Zb,λp hp=>?_,λp hp=>?_,w.n1,w.n2,w.n3,w.ndw,nd,w.ew,hf⟩
 ·rw[Zc (nt (w.aw p hp))];exact w.aw p hp
 ·rw[Zc (nt (h p hp))];exact h p hp
theorem WAt.putW(w:WAt H q dw dr tw tr v){k:Int}{x:Addr}{a:Al Str}(hx:H x=some (.tup (alV a))):WAt (upd H dw (.dK (tabV (put tw k (x,a))))) q dw dr (put tw k (x,a)) tr {v with wait:=fput v.wait k (some a)}:=
 w.wW (Ya w.ndw _ _) (λp hp=>by
  rcases mem_put hp with hp|e
  ·exact w.aw p hp
  ·rw[e];exact hx) (by rw[Re,w.ew])
theorem WAt.putR(w:WAt H q dw dr tw tr v){k:Int}{x:Addr}{a:Al Str}(hx:H x=some (.tup (alV a))):WAt (upd H dr (.dK (tabV (put tr k (x,a))))) q dw dr tw (put tr k (x,a)) {v with rest:=fput v.rest k (some a)}:=
 w.wR (Ya w.ndr _ _) (λp hp=>by
  rcases mem_put hp with hp|e
  ·exact w.ar p hp
  ·rw[e];exact hx) (by rw[Re,w.er])
theorem WAt.popW(w:WAt H q dw dr tw tr v)(k:Int):WAt (upd H dw (.dK (YI (tabV tw) (Sum.inl k)))) q dw dr (drop tw k) tr {v with wait:=fput v.wait k none}:=by
 have e:YI (tabV tw) (Sum.inl k)=tabV (drop tw k):=Xp _ tw k;rw[e];exact w.wW (ZL w.ndw _) (λp hp=>w.aw p (mem_drop hp)) (by rw[Ub,w.ew])
theorem WAt.popR(w:WAt H q dw dr tw tr v)(k:Int):WAt (upd H dr (.dK (YI (tabV tr) (Sum.inl k)))) q dw dr tw (drop tr k) {v with rest:=fput v.rest k none}:=by
 have e:YI (tabV tr) (Sum.inl k)=tabV (drop tr k):=Xp _ tr k;rw[e];exact w.wR (ZL w.ndr _) (λp hp=>w.ar p (mem_drop hp)) (by rw[Ub,w.er])
theorem WAt.getW(w:WAt H q dw dr tw tr v){k:Int}{a:Al Str}(h:v.wait k=some a):∃x,get tw k=some (x,a)/\H x=some (.tup (alV a)):=by
 rw[←w.ew] at h;obtain⟨x,hx⟩:=TV h;exact⟨x,hx,w.aw (k,x,a) (YQ hx)⟩
theorem WAt.getR(w:WAt H q dw dr tw tr v){k:Int}{a:Al Str}(h:v.rest k=some a):∃x,get tr k=some (x,a)/\H x=some (.tup (alV a)):=by
 rw[←w.er] at h;obtain⟨x,hx⟩:=TV h;exact⟨x,hx,w.ar (k,x,a) (YQ hx)⟩
theorem WAt.noW(w:WAt H q dw dr tw tr v){k:Int}(h:v.wait k=none):get tw k=none:=by rw[←w.ew] at h;exact fnT_none h
theorem WAt.noR(w:WAt H q dw dr tw tr v){k:Int}(h:v.rest k=none):get tr k=none:=by rw[←w.er] at h;exact fnT_none h
theorem WAt.lens(w:WAt H q dw dr tw tr v){j:Nat}(o:LOk j v):tw.length<=24/\tr.length<=24:=by
 have h1:=o.next;have h2:=o.j24;refine⟨Uk w.ndw λk h=>?_,Uk w.ndr λk h=>?_⟩
 ·obtain⟨x,e⟩:=Option.isSome_iff_exists.mp h;have:=o.wait k x.2 (by rw[←w.ew];show (get tw k).map (·.2)=_;rw[e];rfl);omega
 ·obtain⟨x,e⟩:=Option.isSome_iff_exists.mp h;have:=o.rest k x.2 (by rw[←w.er];show (get tr k).map (·.2)=_;rw[e];rfl);omega
theorem WAt.atW(w:WAt H q dw dr tw tr v){i:Nat}{k:Key}{y:V}(h:(tabV tw)[i]?=some (k,y)):∃n x a,tw[i]?=some (n,x,a)/\k=Sum.inl n/\y= .ref x/\get tw n=some (x,a)/\v.wait n=some a/\H x=some (.tup (alV a)):=by
 unfold tabV mapK at h;rw[List.getElem?_map] at h;cases e:tw[i]? with
 |none=>rw[e] at h;cases h
 |some p=>
  rw[e] at h;cases h;obtain⟨n,x,a⟩:=p;have hm:(n,x,a)∈tw:=List.mem_of_getElem? e;have hg:=VA w.ndw hm;exact⟨n,x,a,rfl,rfl,rfl,hg,by rw[←w.ew];show (get tw n).map (·.2)=_;rw[hg];rfl,w.aw _ hm⟩
theorem WAt.atR(w:WAt H q dw dr tw tr v){i:Nat}{k:Key}{y:V}(h:(tabV tr)[i]?=some (k,y)):∃n x a,tr[i]?=some (n,x,a)/\k=Sum.inl n/\y= .ref x/\get tr n=some (x,a)/\v.rest n=some a/\H x=some (.tup (alV a)):=by
 unfold tabV mapK at h;rw[List.getElem?_map] at h;cases e:tr[i]? with
 |none=>rw[e] at h;cases h
 |some p=>
  rw[e] at h;cases h;obtain⟨n,x,a⟩:=p;have hm:(n,x,a)∈tr:=List.mem_of_getElem? e;have hg:=VA w.ndr hm;exact⟨n,x,a,rfl,rfl,rfl,hg,by rw[←w.er];show (get tr n).map (·.2)=_;rw[hg];rfl,w.ar _ hm⟩
theorem UC(t:TabA):(tabV t).length=t.length:=YJ _ t
end
def Wld(H:Hp)(q dw dr:Addr)(v:Vw):Prop:=∃tw tr,WAt H q dw dr tw tr v
theorem Wld.up{H H1:Hp}{q dw dr:Addr}{v:Vw}(w:Wld H q dw dr v)(s:Same H H1):Wld H1 q dw dr v:=by
 obtain⟨tw,tr,w⟩:=w;exact⟨tw,tr,w.up s⟩
def RetAt(H:Hp):Ret->V->Prop
 | .int i,x=>x= .int i
 | .str s,x=>x= .str s
 | .non,x=>x= .non
 | .rings rs,x=>∃l,x= .ref l/\RingsAt H l rs
theorem RingsAt.up{H H1:Hp}{l:Addr}{rs:List (Int×Int×Str)}(h:RingsAt H l rs)(s:Same H H1):RingsAt H1 l rs:=by
 obtain⟨qs,e,h1,h2⟩:=h;exact⟨qs,e,s _ _ h1,λq hq=>s _ _ (h2 q hq)⟩
theorem RetAt.up{H H1:Hp}{r:Ret}{x:V}(h:RetAt H r x)(s:Same H H1):RetAt H1 r x:=by
 cases r with
 |int i=>exact h
 |str y=>exact h
 |non=>exact h
 |rings rs=>
  obtain⟨l,e,h⟩:=h;exact⟨l,e,h.up s⟩
theorem RetAt.fr{H0 H H0' H':Hp}{q dw dr:Addr}{v:Vw}{r:Ret}{x:V}(h:RetAt H0 r x)(w:Wld H0 q dw dr v)(f:Fr [q,dw,dr] H0 H H0' H'):RetAt H0' r x:=by
 obtain⟨tw,tr,w⟩:=w;have out:∀{y:Addr} {o:HO},H0 y=some o->(∀kvs,o≠.dK kvs)->H0' y=some o:=λ{y o} hy hn=>f.keep y o (λz=>by
  simp only[List.mem_cons,List.not_mem_nil,or_false] at z;rcases z with z|z|z
  ·rw[z,w.top] at hy;cases hy;exact hn _ rfl
  ·rw[z,w.wts] at hy;cases hy;exact hn _ rfl
  ·rw[z,w.rts] at hy;cases hy;exact hn _ rfl) hy
 cases r with
 |int i=>exact h
 |str y=>exact h
 |non=>exact h
 |rings rs=>
  obtain⟨l,e,qs,e2,h1,h2⟩:=h;exact⟨l,e,qs,e2,out h1 (λ_ z=>by cases z),λq' hq=>out (h2 q' hq) λ_ z=>by cases z⟩
noncomputable def Rx(r:Int×Int×Str):PyData:=.tuple [.int r.1,.int r.2.1,.str r.2.2]
noncomputable def retD:Ret->PyData
 | .int i=>.int i
 | .str s=>.str s
 | .non=>.none
 | .rings rs=>.list (rs.map Rx)
theorem RingsAt.den{K:W.Frag}{H:Hp}{l:Addr}{rs:List (Int×Int×Str)}(r:RingsAt H l rs):Den K H (.ref l) (.list (rs.map Rx)):=by
 obtain⟨qs,rfl,h,t⟩:=r;refine .lst (SqL.of h) ?_;clear h;induction qs with
 |nil=>exact .nil
 |cons q qs ih=>
  refine .cons (.tup (SqT.of (t q List.mem_cons_self)) (.cons (.int _) (.cons (.int _) (.cons (.str _) .nil)))) ?_;exact ih λq' h'=>t q' (List.mem_cons_of_mem _ h')
theorem TN{K:W.Frag}{H:Hp}{l:Addr}{ns:List Int}(h:H l=some (.lst (ns.map V.int))):Den K H (.ref l) (.list (ns.map PyData.int)):=by
 refine .lst (SqL.of h) ?_;clear h;induction ns with
 |nil=>exact .nil
 |cons n ns ih=>exact .cons (.int n) ih
theorem RetAt.den{K:W.Frag}{H:Hp}{r:Ret}{x:V}(h:RetAt H r x):Den K H x (retD r):=by
 cases r with
 |int i=>cases h;exact .int i
 |str y=>cases h;exact .str y
 |non=>cases h;exact .non
 |rings rs=>
  obtain⟨l,rfl,h⟩:=h;exact h.den
theorem depth_rings(rs:List (Int×Int×Str)):PyData.depthAll (rs.map Rx)<=4:=by
 induction rs with
 |nil=>exact Nat.zero_le _
 |cons r rs ih=>
  simp only[List.map_cons,PyData.depthAll,Rx,PyData.depth];omega
theorem PF{rs:List (Int×Int×Str)}(h:∀r∈rs,PyData.strOk r.2.2=true):PyData.canLayAll0 (rs.map Rx)=true:=by
 induction rs with
 |nil=>simp[PyData.canLayAll0]
 |cons r rs ih=>
  have h1:=h r List.mem_cons_self;have h2:=ih λr' hr=>h r' (List.mem_cons_of_mem _ hr);simp[Rx,PyData.canLayAll0,PyData.canLay0,h1,h2]
theorem Rv{r:Ret}(h:RetOk r):SeqAt.shaped (retD r)=true:=by
 cases r with
 |int i=>simp[SeqAt.shaped,retD,PyData.canLay0,PyData.depth]
 |str y=>
  have h':PyData.strOk y=true:=h;simp[SeqAt.shaped,retD,PyData.canLay0,PyData.depth,h']
 |non=>simp[SeqAt.shaped,retD,PyData.canLay0,PyData.depth]
 |rings rs=>
  have h1:=PF (rs:=rs) h;have h2:=depth_rings rs;simp[SeqAt.shaped,retD,PyData.canLay0,PyData.depth,h1];omega
theorem Xr(ns:List Int):SeqAt.shaped (.list (ns.map PyData.int))=true:=by
 have h1:PyData.canLayAll0 (ns.map PyData.int)=true:=by
  induction ns with
  |nil=>simp[PyData.canLayAll0]
  |cons n ns ih=>simp[PyData.canLayAll0,PyData.canLay0,ih]
 have h2:PyData.depthAll (ns.map PyData.int)<=4:=by
  induction ns with
  |nil=>exact Nat.zero_le _
  |cons n ns ih=>
   simp only[List.map_cons,PyData.depthAll,PyData.depth];have:=ih (by simp[PyData.canLayAll0,PyData.canLay0] at h1;exact h1);omega
 simp[SeqAt.shaped,PyData.canLay0,PyData.depth,h1];omega
theorem comp_dict{a:Addr}{o:Obj}{kvs:List (Key×V)}{fv:List (Option Nat)}{jx:Nat}{tc:TT}{te:TE}{σ:St}{H:Hp}{Q:VK}(Pv:Nat->List V->Hp->Prop)(h0:Pv 0 [] H)
 (hl:∀i ys H,i<=kvs.length->Pv i ys H->H a=some (.frz o (.dK kvs))/\ys.length<sizeLine)
 (hs:∀i k v ys H (N:List V->Hp->Prop),kvs[i]?=some (k,v)->Pv i ys H->(∀ys' H3,Pv (i+1) ys' H3->N ys' H3)->tc ((blk fv σ).set jx (some (kV k))) H λb H2=>if b=true then te ((blk fv σ).set jx (some (kV k))) H2 λy H3=>N (ys++[y]) H3 else N ys H2)
 (hd:∀ys H,Pv kvs.length ys H->∀acc,H acc=none->Q (.ref acc) (upd H acc (.lst ys))):VN (Itd a o kvs) fv jx tc te σ H Q:=by
 refine⟨λi m ys H=>m=kvs.length-i/\i<=kvs.length/\Pv i ys H,⟨kvs.length,by simp,Nat.zero_le _,h0⟩,?_⟩;rintro i m ys H ⟨rfl,hi,p⟩;obtain⟨q,hz⟩:=hl i ys H hi p;refine⟨hz,?_⟩;by_cases hlt:i<kvs.length
 ·refine .inr ⟨⟨hlt,q⟩,λx H' y=>?_⟩;obtain⟨e,k,v,hk,ex⟩:=y;subst e ex;exact hs i k v ys _ (λys' H3=>∃m',m'<kvs.length-i/\m'=kvs.length-(i+1)/\i+1<=kvs.length/\Pv (i+1) ys' H3) hk p λys' H3 p3=>⟨_,by omega,rfl,hlt,p3⟩
 ·have e:i=kvs.length:=by omega
  subst e;exact .inl ⟨⟨Nat.le_refl _,q⟩,hd ys H p⟩
theorem Sv{a:Addr}{o:Obj}{kvs:List (Key×V)}{fv:List (Option Nat)}{jx:Nat}{tc:TT}{te:TE}{σ:St}{H:Hp}{Q:VK}(Pv:Nat->List V->Hp->Prop)(h0:Pv 0 [] H)
 (hl:∀i ys H,i<=kvs.length->Pv i ys H->H a=some (.frz o (.dK kvs))/\ys.length<sizeLine)
 (hs:∀i k v ys H (N:List V->Hp->Prop),kvs[i]?=some (k,v)->Pv i ys H->(∀ys' H3,Pv (i+1) ys' H3->N ys' H3)->tc ((blk fv σ).set jx (some v)) H λb H2=>if b=true then te ((blk fv σ).set jx (some v)) H2 λy H3=>N (ys++[y]) H3 else N ys H2)
 (hd:∀ys H,Pv kvs.length ys H->∀acc,H acc=none->Q (.ref acc) (upd H acc (.lst ys))):VN (Itv a o kvs) fv jx tc te σ H Q:=by
 refine⟨λi m ys H=>m=kvs.length-i/\i<=kvs.length/\Pv i ys H,⟨kvs.length,by simp,Nat.zero_le _,h0⟩,?_⟩;rintro i m ys H ⟨rfl,hi,p⟩;obtain⟨q,hz⟩:=hl i ys H hi p;refine⟨hz,?_⟩;by_cases hlt:i<kvs.length
 ·refine .inr ⟨⟨hlt,q⟩,λx H' y=>?_⟩;obtain⟨e,k,hk⟩:=y;subst e;exact hs i k x ys _ (λys' H3=>∃m',m'<kvs.length-i/\m'=kvs.length-(i+1)/\i+1<=kvs.length/\Pv (i+1) ys' H3) hk p λys' H3 p3=>⟨_,by omega,rfl,hlt,p3⟩
 ·have e:i=kvs.length:=by omega
  subst e;exact .inl ⟨⟨Nat.le_refl _,q⟩,hd ys H p⟩
theorem for_dict{a:Addr}{o:Obj}{kvs:List (Key×V)}{g:TG}{tb:TS}{D:Ends}{σ:St}{H:Hp}(Pv:Nat->St->Hp->Prop)(h0:Pv 0 σ H)(hl:∀i σ H,i<=kvs.length->Pv i σ H->H a=some (.frz o (.dK kvs)))
 (hs:∀i k v σ H,kvs[i]?=some (k,v)->Pv i σ H->g (kV k) σ H λσ2 H2=>tb {D with nx:=Pv (i+1),ct:=Pv (i+1),bk:=D.nx} σ2 H2)(hd:∀σ H,Pv kvs.length σ H->D.nx σ H):
  ∃W:Nat->Nat->St->Hp->Prop,(∃m,W 0 m σ H)/\∀i m σ H,W i m σ H->
   ((Itd a o kvs).stop i H/\D.nx σ H)\/((Itd a o kvs).go i H/\∃N:St->Hp->Prop,(∀σ' H',N σ' H'->∃m',m'<m/\W (i+1) m' σ' H')/\∀x H',(Itd a o kvs).yld i H x H'->g x σ H' λσ2 H2=>tb {D with nx:=N,ct:=N,bk:=D.nx} σ2 H2):=by
 refine⟨λi m σ H=>m=kvs.length-i/\i<=kvs.length/\Pv i σ H,⟨kvs.length,by simp,Nat.zero_le _,h0⟩,?_⟩;rintro i m σ H ⟨rfl,hi,p⟩;have q:=hl i σ H hi p;by_cases hlt:i<kvs.length
 ·refine .inr ⟨⟨hlt,q⟩,Pv (i+1),λσ' H' p'=>⟨kvs.length-(i+1),by omega,rfl,hlt,p'⟩,λx H' y=>?_⟩;obtain⟨e,k,v,hk,ex⟩:=y;subst e ex;exact hs i k v σ _ hk p
 ·have e:i=kvs.length:=by omega
  subst e;exact .inl ⟨⟨Nat.le_refl _,q⟩,hd σ H p⟩
theorem Ur{H:Hp}{x y:Addr}{o u:HO}(h:x≠y):upd (upd H x o) y u=upd (upd H y u) x o:=by
 funext z;unfold upd;by_cases h1:z=y
 ·have h2: ¬z=x:=λe=>h (e.symm.trans h1);simp[h1,h2,h,Ne.symm h]
 ·by_cases h2:z=x<;>simp[h1,h2,h]
theorem upd_self{H:Hp}{x:Addr}{o:HO}(h:H x=some o):upd H x o=H:=by
 funext z;unfold upd;by_cases h1:z=x
 ·rw[if_pos h1,h1,h]
 ·rw[if_neg h1]
theorem Sx{H:Hp}{x:Addr}{o u:HO}(h:H x=some o):upd (upd H x u) x o=H:=by rw[upd_upd,upd_self h]
theorem boot_VE:bootBuiltins "ValueError"=some (.type "ValueError"):=by decide+kernel
def spCell(K:W.Frag):Sp:=λvs H Q _=>∃(l:Addr) (ns:List Int) (k:Int),vs=[.ref l,.int k]/\SqL K H l (ns.map V.int)/\∀x:Int,Q (.int x) H
theorem QX:FnScope ["_law_script","_law_k"] ["_law_script","_law_k"] (Zd XA):=Zu
theorem Pr(T:Txt K mg a):FnOk P w K mg base (CXe P w) 1 a.f__law_cell a.fd__law_cell ["_law_script","_law_k"] (spCell K):=by
 refine T.F__law_cell.okN QX (λvs H Q E h=>?_) (λcdv A' outer s H vs Q E hr h=>?_)
 ·obtain⟨l,ns,k,rfl,_⟩:=h;rfl
 ·obtain⟨l,ns,k,rfl,hl,kk⟩:=h;refine⟨_,(Zh (ZG (Yf (pv 0) (λ_=>rfl)) (Zf (Zn (ZC Ye (pv 0) (Zp ZT (pv 1) (ZF Vm rfl T.b_len boot_len (Za (pv 0) Ze))) (λ_ _=>rfl)))) Zv)
   (Zf (Zn Zg))),?_⟩
  cases ns with
  |nil=>
   refine⟨_,rfl,false,.inl ⟨_,hl,rfl⟩,iteF ?_⟩;exact kk 0
  |cons n ns=>
   refine⟨_,rfl,true,.inl ⟨_,hl,rfl⟩,iteT ?_⟩;have hp:(0:Int)<(((n::ns).map V.int).length:Int):=by simp
   have h1:=Int.emod_nonneg k (Int.ne_of_gt hp);have h2:=Int.emod_lt_of_pos k hp;obtain⟨j,hj⟩:∃j:Nat,k % (((n::ns).map V.int).length:Int)=(j:Int):=⟨(k % _).toNat,(Int.toNat_of_nonneg h1).symm⟩;have hjl:j<(n::ns).length:=by rw[hj] at h2;simp at h2 ⊢;omega
   refine⟨_,rfl,_,rfl,_,rfl,_,_,rfl,.inl hl,_,_,rfl,rfl,hp,_,_,_,.int (n::ns)[j],rfl,rfl,hl,?_,kk _⟩;rw[hj];exact atI_nat (by rw[List.getElem?_map];simp[hjl])
def spMix(K:W.Frag):Sp:=λvs H Q _=>∃(l:Addr) (ns:List Int) (k:Int),vs=[.ref l,.int k]/\SqL K H l (ns.map V.int)/\∀x:Int,0<=x->x<4294967231->Q (.int x) H
theorem sc__law_mix:FnScope ["_law_script","_law_k","_law_number"] ["_law_script","_law_k"] (Zd XV):=Zu
theorem VJ(T:Txt K mg a):FnOk P w K mg base (CXe P w) 2 a.f__law_mix a.fd__law_mix ["_law_script","_law_k"] (spMix K):=by
 have G__law_cell:=Pr (P:=P) (w:=w) (base:=base) T;refine T.F__law_mix.okN sc__law_mix (λvs H Q E h=>?_) (λcdv A' outer s H vs Q E hr h=>?_)
 ·obtain⟨l,ns,k,rfl,_⟩:=h;rfl
 ·obtain⟨l,ns,k,rfl,hl,kk⟩:=h;refine⟨_,(Zh (Zw (i:=2) sc__law_mix.nd rfl (Or.inl rfl) (Zp ZT (Zp ZZ (ZA G__law_cell (hr.mono (by decide)) rfl T.f__law_cell T.kp__law_cell T.B__law_cell .nil ZB (Za (pv 0) (Za (pv 1) Ze))) (Zp Vh Zg (Zp ZZ (pv 1) Zg))) Zg))
   (Zh (Zw (i:=2) sc__law_mix.nd rfl (Or.inl rfl) (Zp ZT (Zp Vh (pv 2) Zg) Zg))
   (Zf (Zn (Zp ZT (Zp ZZ (Zp Vh (Zp ZI (pv 2) Zg) Zg) (pv 2)) Zg))))),?_⟩
  refine⟨_,rfl,_,rfl,l,ns,k,rfl,hl,λx=>?_⟩;refine⟨_,rfl,_,_,rfl,rfl,_,_,rfl,rfl,.inl ⟨by decide,by decide⟩,_,_,rfl,rfl,_,_,rfl,rfl,(by show (0:Int)<4294967291;decide),?_⟩;refine⟨_,rfl,_,_,rfl,rfl,.inr ⟨by decide,by decide⟩,_,_,rfl,rfl,(by show (0:Int)<4294967279;decide),?_⟩;refine⟨_,rfl,_,_,rfl,rfl,⟨by decide,by decide⟩,_,_,rfl,rfl,.inr ⟨by decide,by decide⟩,_,rfl,_,_,rfl,rfl,_,_,rfl,rfl,(by show (0:Int)<4294967231;decide),?_⟩;exact kk _ (Int.emod_nonneg _ (by decide)) (Int.emod_lt_of_pos _ (by decide))
def DoneAt(q dw dr:Addr)(H0 H:Hp)(v:Vw)(d:Deed)(Q:VK):Prop:=∀(H0' H':Hp) (r:Ret) (v':Vw) (x:V),Fr [q,dw,dr] H0 H H0' H'->Wld H0' q dw dr v'->Does d v r v'->RetAt H0' r x->Q x H'
def spDo(f:Deed->List V->Prop):Sp:=λvs H Q _=>∃(H0:Hp) (q dw dr:Addr) (v:Vw) (j:Nat) (d:Deed) (us:List V),vs= .ref q::us/\f d us/\Same H0 H/\Wld H0 q dw dr v/\LOk j v/\RW v d/\DoneAt q dw dr H0 H v d Q
def fSet:Deed->List V->Prop:=λd us=>∃(due:Int) (step:Option Int) (name:Str),d= .set due step name/\us=[.str name,.int due,XG step]
theorem sc__law_set:FnScope ["_law_world","_law_name","_law_due","_law_step","_law_number"] ["_law_world","_law_name","_law_due","_law_step"] (Zd XT):=Zu
theorem ok__law_set(T:Txt K mg a):FnOk P w K mg base (CXe P w) 1 a.f__law_set a.fd__law_set ["_law_world","_law_name","_law_due","_law_step"] (spDo fSet):=by
 refine T.F__law_set.okN sc__law_set (λvs H Q E h=>?_) (λcdv A' outer s H vs Q E hr h=>?_)
 ·obtain⟨H0,q,dw,dr,v,j,d,us,rfl,⟨due,step,name,rfl,rfl⟩,_⟩:=h;rfl
 ·obtain⟨H0,q,dw,dr,v,j,d,us,rfl,⟨due,step,name,rfl,rfl⟩,s0,⟨tw,tr,w0⟩,lo,dk,kk⟩:=h;have hu:=YK hr;have w1:=w0.up s0;have lns:=w0.lens lo;refine⟨_,(Zh (ZG (UY (Zq Qp (pv 2) (Zr hu (pv 0) Zl (λ_ _=>rfl)) (Zz _)) (Ue (RA (Zq Ui (pv 3) ZK (Zz _)) (Tw (Zq Sz (pv 3) Zg (Zz _)))).pt)).pt (Zf (Zn Zl)) Zv)
   (Zh (Zw (i:=4) sc__law_set.nd rfl (Or.inl rfl) (Zr hu (pv 0) Zl (λ_ _=>rfl)))
   (Zh (YM hu (pv 0) Zl (Zp ZZ (pv 4) Zg) rfl)
   (Zh (YM hu (Zr hu (pv 0) Zl (λ_ _=>rfl)) (pv 4) (Yv (Za (pv 1) (Za (pv 2) (Za (pv 3) Ze)))) rfl)
   (Zf (Zn (pv 4))))))),?_⟩
  have past:(due<=v.now\/∃s,step=some s/\s<1)->Q (.str "past") H:=λc=>kk H0 H _ v _ (.refl s0) ⟨tw,tr,w0⟩ (.setNo c) rfl;refine⟨_,rfl,_,rfl,_,_,rfl,w1.gNow,_,_,rfl,rfl,_,rfl,ite2 (λc=>iteT (past (.inl (of_decide_eq_true c)))) (λc=>?_)⟩;have hd:v.now<due:=Int.not_le.mp λz=>c (decide_eq_true z);have s1:=ZV s0 q (.dK (wdV {v with next:=v.next+1} dw dr));have w2:=w1.wTop (v':={v with next:=v.next+1}) rfl rfl;have w02:=w0.wTop (v':={v with next:=v.next+1}) rfl rfl;have fin:∀x,upd H q (.dK (wdV {v with next:=v.next+1} dw dr)) x=none->(∀s,step=some s->1<=s)->Q (.int v.next) (upd (upd (upd H q (.dK (wdV {v with next:=v.next+1} dw dr))) x (.tup (alV ⟨name,due,step⟩))) dw (.dK (tabV (put tw v.next (x,⟨name,due,step⟩))))):=λx hx hs=>by
   have w03:=w02.up (Same.upd (o:=.tup (alV ⟨name,due,step⟩)) (s1.free hx));refine kk _ _ _ _ _ (((Fr.wr s0 w0.top (by simp)).trans (Fr.new s1 hx)).trans (Fr.wr (ZV s1 _ _) w03.wts (by simp))) ⟨_,_,w03.putW (k:=v.next) Zb⟩ (.setOk hd hs) rfl
  cases step with
  |none=>
   refine⟨_,rfl,rfl,_,rfl,iteF (iteF ?_)⟩;refine⟨_,rfl,_,_,rfl,w1.gMany,?_⟩;refine⟨_,rfl,_,_,rfl,rfl,_,rfl,_,_,rfl,w1.pMany _,?_⟩;refine⟨_,rfl,_,rfl,_,rfl,(by show 3<=sizeLine;decide),λx hx=>?_⟩;have w3:=w2.up (Same.upd (o:=.tup (alV ⟨name,due,none⟩)) hx);refine⟨_,rfl,_,_,rfl,w3.gWaits,_,rfl,_,_,rfl,w3.pW _ x ⟨name,due,none⟩ (by omega),?_⟩;exact⟨_,rfl,fin x hx λs z=>by cases z⟩
  |some sp=>
   refine⟨_,rfl,rfl,_,rfl,iteT ?_⟩;refine⟨_,rfl,_,_,rfl,rfl,_,rfl,ite2 (λc=>past (.inr ⟨sp,rfl,of_decide_eq_true c⟩)) (λc=>?_)⟩;have hsp:1<=sp:=by
    have: ¬sp<1:=λz=>c (decide_eq_true z);omega
   refine⟨_,rfl,_,_,rfl,w1.gMany,?_⟩;refine⟨_,rfl,_,_,rfl,rfl,_,rfl,_,_,rfl,w1.pMany _,?_⟩;refine⟨_,rfl,_,rfl,_,rfl,(by show 3<=sizeLine;decide),λx hx=>?_⟩;have w3:=w2.up (Same.upd (o:=.tup (alV ⟨name,due,some sp⟩)) hx);refine⟨_,rfl,_,_,rfl,w3.gWaits,_,rfl,_,_,rfl,w3.pW _ x ⟨name,due,some sp⟩ (by omega),?_⟩;exact⟨_,rfl,fin x hx λs z=>by cases z;exact hsp⟩
def fMove:Deed->List V->Prop:=λd us=>∃k due:Int,d= .move k due/\us=[.int k,.int due]
theorem sc__law_move:FnScope ["_law_world","_law_number","_law_due","_law_one"] ["_law_world","_law_number","_law_due"] (Zd Xx):=Zu
theorem Po(T:Txt K mg a):FnOk P w K mg base (CXe P w) 1 a.f__law_move a.fd__law_move ["_law_world","_law_number","_law_due"] (spDo fMove):=by
 refine T.F__law_move.okN sc__law_move (λvs H Q E h=>?_) (λcdv A' outer s H vs Q E hr h=>?_)
 ·obtain⟨H0,q,dw,dr,v,j,d,us,rfl,⟨k,due,rfl,rfl⟩,_⟩:=h;rfl
 ·obtain⟨H0,q,dw,dr,v,j,d,us,rfl,⟨k,due,rfl,rfl⟩,s0,⟨tw,tr,w0⟩,lo,dk,kk⟩:=h;have hu:=YK hr;have w1:=w0.up s0;have lns:=w0.lens lo;refine⟨_,(Zh (ZG (Ug (Vt hu (pv 1) (Zr hu (pv 0) Zl (λ_ _=>rfl)))) (Zf (Zn Zl)) Zv)
   (Zh (ZG (Zq Qp (pv 2) (Zr hu (pv 0) Zl (λ_ _=>rfl)) (Zz _)) (Zf (Zn Zl)) Zv)
   (Zh (Zw (i:=3) sc__law_move.nd rfl (Or.inl rfl) (Zr hu (Zr hu (pv 0) Zl (λ_ _=>rfl)) (pv 1) (λ_ _=>rfl)))
   (Zh (YM hu (Zr hu (pv 0) Zl (λ_ _=>rfl)) (pv 1) (Yv (Za (ZC ZE (pv 3) Zg (λ_ _=>rfl)) (Za (pv 2) (Za (ZC ZE (pv 3) Zg (λ_ _=>rfl)) Ze)))) rfl)
   (Zf (Zn ZK)))))),?_⟩
  cases e:v.wait k with
  |none=>
   have g:=w1.gW k;rw[w1.noW e] at g;refine⟨_,rfl,_,rfl,_,_,rfl,w1.gWaits,_,_,rfl,g,_,rfl,iteT ?_⟩;exact kk H0 H _ v _ (.refl s0) ⟨tw,tr,w0⟩ (.moveNo e) rfl
  |some al=>
   obtain⟨x,hx,hxt⟩:=w1.getW e;have g:=w1.gW k;rw[hx] at g;replace g:DGet H dw (.int k) (some (.ref x)):=g;refine⟨_,rfl,_,rfl,_,_,rfl,w1.gWaits,_,_,rfl,g,_,rfl,iteF ?_⟩;refine⟨_,rfl,_,rfl,_,_,rfl,w1.gNow,_,_,rfl,rfl,_,rfl,ite2 (λc=>?_) (λc=>?_)⟩
   ·exact kk H0 H _ v _ (.refl s0) ⟨tw,tr,w0⟩ (.moveNo2 e (of_decide_eq_true c)) rfl
   ·have hd:v.now<due:=Int.not_le.mp λz=>c (decide_eq_true z);refine⟨_,rfl,_,_,rfl,w1.gWaits,_,rfl,_,_,rfl,g,?_⟩;refine⟨_,rfl,_,_,_,_,rfl,rfl,SqT.of hxt,rfl,_,rfl,_,rfl,_,_,_,_,rfl,rfl,SqT.of hxt,rfl,(by show 3<=sizeLine;decide),λy hy=>?_⟩;have w2:=w1.up (Same.upd (o:=.tup (alV ⟨al.name,due,al.step⟩)) hy);have w02:=w0.up (Same.upd (o:=.tup (alV ⟨al.name,due,al.step⟩)) (s0.free hy));refine⟨_,rfl,_,_,rfl,w2.gWaits,_,rfl,_,_,rfl,w2.pW k y ⟨al.name,due,al.step⟩ (by omega),?_⟩;exact kk _ _ _ _ _ ((Fr.new s0 hy).trans (Fr.wr (ZV s0 _ _) w02.wts (by simp))) ⟨_,_,w02.putW (k:=k) Zb⟩ (.moveOk e hd) rfl
def fBack:Deed->List V->Prop:=λd us=>∃k due:Int,d= .back k due/\us=[.int k]
theorem sc__law_back:FnScope ["_law_world","_law_number","_law_word"] ["_law_world","_law_number"] (Zd XB):=Zu
theorem Ps(T:Txt K mg a):FnOk P w K mg base (CXe P w) 1 a.f__law_back a.fd__law_back ["_law_world","_law_number"] (spDo fBack):=by
 refine T.F__law_back.okN sc__law_back (λvs H Q E h=>?_) (λcdv A' outer s H vs Q E hr h=>?_)
 ·obtain⟨H0,q,dw,dr,v,j,d,us,rfl,⟨k,due,rfl,rfl⟩,_⟩:=h;rfl
 ·obtain⟨H0,q,dw,dr,v,j,d,us,rfl,⟨k,due,rfl,rfl⟩,s0,⟨tw,tr,w0⟩,lo,dk,kk⟩:=h;have hu:=YK hr;refine⟨_,(Zh (Vx PassesOwn.never rfl (pi_tup (Yv (Za Zl (Za Zl Ze)))) (Yi (i:=2) sc__law_back.nd rfl (Or.inl rfl)) (Zf (ZG (Ug (pc_din hu (pv 1) (Zr hu (pv 0) (pv 2) (λ_ _=>rfl)))) (Zf (Zn (ZC ZE (YT (Zr hu (pv 0) (pv 2) (λ_ _=>rfl)) (pv 1) ⟨rfl,rfl,rfl,rfl⟩) Zg (λ_ _=>rfl)))) Zv)))
   (Zf (Zn Zl))),?_⟩
  refine⟨(by show 2<=sizeLine;decide),λtq htq=>?_⟩;have htv:upd H tq (.tup [.str "waits",.str "rests"]) tq=some (.tup [.str "waits",.str "rests"]):=Zb;have w1:=(w0.up s0).up (Same.upd (o:=.tup [.str "waits",.str "rests"]) htq);have w01:=w0.up (Same.upd (o:=.tup [.str "waits",.str "rests"]) (s0.free htq));have s1:=ZV s0 tq (.tup [.str "waits",.str "rests"]);have f1:Fr [q,dw,dr] H0 H _ _:=Fr.new (o:=.tup [.str "waits",.str "rests"]) s0 htq;generalize upd H tq (.tup [.str "waits",.str "rests"])=H1 at *;generalize upd H0 tq (.tup [.str "waits",.str "rests"])=H01 at *;refine⟨_,rfl,⟨_,SqT.of htv⟩,?_⟩;refine for_tup (xs:=[.str "waits",.str "rests"]) (λi σ Hi=>Hi=H1/\(∃x,σ=[some (.ref q),some (.int k),x])/\(1<=i->v.wait k=none)/\(2<=i->v.rest k=none)) ⟨rfl,⟨_,rfl⟩,(λz=>by omega),(λz=>by omega)⟩ (λi σ Hi _ hh=>by rw[hh.1];exact SqT.of htv) ?_ ?_
  ·rintro i x σ Hi hx ⟨rfl,⟨y,rfl⟩,h1,h2⟩
   match i,hx with
   |0,hx=>
    cases hx;cases e:v.wait k with
    |none=>
     have g:=w1.gW k;rw[w1.noW e] at g;refine⟨_,rfl,_,rfl,_,rfl,_,_,rfl,w1.gWaits,_,_,rfl,g,_,rfl,iteF ?_⟩;exact⟨rfl,⟨_,rfl⟩,(λ_=>by first|exact e|rfl),(λz=>by omega)⟩
    |some al=>
     obtain⟨x,hx,hxt⟩:=w1.getW e;have g:=w1.gW k;rw[hx] at g;replace g:DGet Hi dw (.int k) (some (.ref x)):=g;refine⟨_,rfl,_,rfl,_,rfl,_,_,rfl,w1.gWaits,_,_,rfl,g,_,rfl,iteT ?_⟩;have hxt2:upd Hi dw (.dK (YI (tabV tw) (Sum.inl k))) x=some (.tup (alV al)):=by
      rw[Zc (λz=>by rw[z,w1.wts] at hxt;cases hxt)];exact hxt
     refine⟨_,rfl,_,rfl,_,_,rfl,w1.gWaits,_,rfl,.inl ⟨_,.inl w1.wts⟩,_,rfl,_,Sum.inl k,.ref x,w1.wts,rfl,w1.vW hx,_,_,_,_,rfl,rfl,SqT.of hxt2,rfl,?_⟩;exact kk _ _ _ _ _ (f1.trans (Fr.wr s1 w01.wts (by simp))) ⟨_,_,w01.popW k⟩ (.backW e) rfl
   |1,hx=>
    cases hx;have e0:=h1 (Nat.le_refl _);cases e:v.rest k with
    |none=>
     have g:=w1.gR k;rw[w1.noR e] at g;refine⟨_,rfl,_,rfl,_,rfl,_,_,rfl,w1.gRests,_,_,rfl,g,_,rfl,iteF ?_⟩;exact⟨rfl,⟨_,rfl⟩,(λ_=>e0),(λ_=>by first|exact e|rfl)⟩
    |some al=>
     obtain⟨x,hx,hxt⟩:=w1.getR e;have g:=w1.gR k;rw[hx] at g;replace g:DGet Hi dr (.int k) (some (.ref x)):=g;refine⟨_,rfl,_,rfl,_,rfl,_,_,rfl,w1.gRests,_,_,rfl,g,_,rfl,iteT ?_⟩;have hxt2:upd Hi dr (.dK (YI (tabV tr) (Sum.inl k))) x=some (.tup (alV al)):=by
      rw[Zc (λz=>by rw[z,w1.rts] at hxt;cases hxt)];exact hxt
     refine⟨_,rfl,_,rfl,_,_,rfl,w1.gRests,_,rfl,.inl ⟨_,.inl w1.rts⟩,_,rfl,_,Sum.inl k,.ref x,w1.rts,rfl,w1.vR hx,_,_,_,_,rfl,rfl,SqT.of hxt2,rfl,?_⟩;exact kk _ _ _ _ _ (f1.trans (Fr.wr s1 w01.rts (by simp))) ⟨_,_,w01.popR k⟩ (.backR e0 e) rfl
   |n+2,hx=>simp at hx
  ·rintro σ Hi ⟨rfl,⟨y,rfl⟩,h1,h2⟩;exact kk _ _ _ v _ f1 ⟨tw,tr,w01⟩ (.backNo (h1 (by decide)) (h2 (by decide))) rfl
def fRest:Deed->List V->Prop:=λd us=>∃k due:Int,d= .rest k due/\us=[.int k]
theorem sc__law_rest:FnScope ["_law_world","_law_number","_law_one"] ["_law_world","_law_number"] (Zd Xv):=Zu
theorem Pm(T:Txt K mg a):FnOk P w K mg base (CXe P w) 1 a.f__law_rest a.fd__law_rest ["_law_world","_law_number"] (spDo fRest):=by
 refine T.F__law_rest.okN sc__law_rest (λvs H Q E h=>?_) (λcdv A' outer s H vs Q E hr h=>?_)
 ·obtain⟨H0,q,dw,dr,v,j,d,us,rfl,⟨k,due,rfl,rfl⟩,_⟩:=h;rfl
 ·obtain⟨H0,q,dw,dr,v,j,d,us,rfl,⟨k,due,rfl,rfl⟩,s0,⟨tw,tr,w0⟩,lo,dk,kk⟩:=h;have hu:=YK hr;have w1:=w0.up s0;have lns:=w0.lens lo;refine⟨_,(Zh (ZG (Ug (Vt hu (pv 1) (Zr hu (pv 0) Zl (λ_ _=>rfl)))) (Zf (Zn Zl)) Zv)
   (Zh (Zw (i:=2) sc__law_rest.nd rfl (Or.inl rfl) (YT (Zr hu (pv 0) Zl (λ_ _=>rfl)) (pv 1) ⟨rfl,rfl,rfl,rfl⟩))
   (Zh (YM hu (Zr hu (pv 0) Zl (λ_ _=>rfl)) (pv 1) (Yv (Za (ZC ZE (pv 2) Zg (λ_ _=>rfl)) (Za (Zp Vy (ZC ZE (pv 2) Zg (λ_ _=>rfl)) (Zr hu (pv 0) Zl (λ_ _=>rfl))) (Za (ZC ZE (pv 2) Zg (λ_ _=>rfl)) Ze)))) rfl)
   (Zf (Zn ZK))))),?_⟩
  cases e:v.wait k with
  |none=>
   have g:=w1.gW k;rw[w1.noW e] at g;refine⟨_,rfl,_,rfl,_,_,rfl,w1.gWaits,_,_,rfl,g,_,rfl,iteT ?_⟩;exact kk H0 H _ v _ (.refl s0) ⟨tw,tr,w0⟩ (.restNo e) rfl
  |some al=>
   obtain⟨x,hx,hxt⟩:=w1.getW e;have g:=w1.gW k;rw[hx] at g;replace g:DGet H dw (.int k) (some (.ref x)):=g;refine⟨_,rfl,_,rfl,_,_,rfl,w1.gWaits,_,_,rfl,g,_,rfl,iteF ?_⟩;refine⟨_,rfl,_,_,rfl,w1.gWaits,_,rfl,.inl ⟨_,.inl w1.wts⟩,_,rfl,_,Sum.inl k,.ref x,w1.wts,rfl,w1.vW hx,?_⟩;have hxt2:upd H dw (.dK (YI (tabV tw) (Sum.inl k))) x=some (.tup (alV al)):=by
    rw[Zc (λz=>by rw[z,w1.wts] at hxt;cases hxt)];exact hxt
   have w2:=w1.popW k;have w02:=w0.popW k;have s1:=ZV s0 dw (.dK (YI (tabV tw) (Sum.inl k)));refine⟨_,rfl,_,_,_,_,rfl,rfl,SqT.of hxt2,rfl,_,rfl,_,_,_,_,rfl,rfl,SqT.of hxt2,rfl,_,rfl,_,_,rfl,w2.gNow,_,_,rfl,rfl,_,rfl,_,_,_,_,rfl,rfl,SqT.of hxt2,rfl,(by show 3<=sizeLine;decide),λy hy=>?_⟩;have w3:=w2.up (Same.upd (o:=.tup (alV ⟨al.name,al.tick-v.now,al.step⟩)) hy);have w03:=w02.up (Same.upd (o:=.tup (alV ⟨al.name,al.tick-v.now,al.step⟩)) (s1.free hy));refine⟨_,rfl,_,_,rfl,w3.gRests,_,rfl,_,_,rfl,w3.pR k y ⟨al.name,al.tick-v.now,al.step⟩ (by omega),?_⟩;exact kk _ _ _ _ _ (((Fr.wr s0 w0.wts (by simp)).trans (Fr.new s1 hy)).trans (Fr.wr (ZV s1 _ _) w03.rts (by simp))) ⟨_,_,w03.putR (k:=k) Zb⟩ (.restOk e) rfl
def fOn:Deed->List V->Prop:=λd us=>∃k due:Int,d= .on k due/\us=[.int k]
theorem sc__law_on:FnScope ["_law_world","_law_number","_law_one"] ["_law_world","_law_number"] (Zd Vp):=Zu
theorem ok__law_on(T:Txt K mg a):FnOk P w K mg base (CXe P w) 1 a.f__law_on a.fd__law_on ["_law_world","_law_number"] (spDo fOn):=by
 refine T.F__law_on.okN sc__law_on (λvs H Q E h=>?_) (λcdv A' outer s H vs Q E hr h=>?_)
 ·obtain⟨H0,q,dw,dr,v,j,d,us,rfl,⟨k,due,rfl,rfl⟩,_⟩:=h;rfl
 ·obtain⟨H0,q,dw,dr,v,j,d,us,rfl,⟨k,due,rfl,rfl⟩,s0,⟨tw,tr,w0⟩,lo,dk,kk⟩:=h;have hu:=YK hr;have w1:=w0.up s0;have lns:=w0.lens lo;refine⟨_,(Zh (ZG (Ug (Vt hu (pv 1) (Zr hu (pv 0) Zl (λ_ _=>rfl)))) (Zf (Zn Zl)) Zv)
   (Zh (Zw (i:=2) sc__law_on.nd rfl (Or.inl rfl) (YT (Zr hu (pv 0) Zl (λ_ _=>rfl)) (pv 1) ⟨rfl,rfl,rfl,rfl⟩))
   (Zh (YM hu (Zr hu (pv 0) Zl (λ_ _=>rfl)) (pv 1) (Yv (Za (ZC ZE (pv 2) Zg (λ_ _=>rfl)) (Za (Zp ZZ (ZC ZE (pv 2) Zg (λ_ _=>rfl)) (Zr hu (pv 0) Zl (λ_ _=>rfl))) (Za (ZC ZE (pv 2) Zg (λ_ _=>rfl)) Ze)))) rfl)
   (Zf (Zn ZK))))),?_⟩
  cases e:v.rest k with
  |none=>
   have g:=w1.gR k;rw[w1.noR e] at g;refine⟨_,rfl,_,rfl,_,_,rfl,w1.gRests,_,_,rfl,g,_,rfl,iteT ?_⟩;exact kk H0 H _ v _ (.refl s0) ⟨tw,tr,w0⟩ (.onNo e) rfl
  |some al=>
   obtain⟨x,hx,hxt⟩:=w1.getR e;have g:=w1.gR k;rw[hx] at g;replace g:DGet H dr (.int k) (some (.ref x)):=g;refine⟨_,rfl,_,rfl,_,_,rfl,w1.gRests,_,_,rfl,g,_,rfl,iteF ?_⟩;refine⟨_,rfl,_,_,rfl,w1.gRests,_,rfl,.inl ⟨_,.inl w1.rts⟩,_,rfl,_,Sum.inl k,.ref x,w1.rts,rfl,w1.vR hx,?_⟩;have hxt2:upd H dr (.dK (YI (tabV tr) (Sum.inl k))) x=some (.tup (alV al)):=by
    rw[Zc (λz=>by rw[z,w1.rts] at hxt;cases hxt)];exact hxt
   have w2:=w1.popR k;have w02:=w0.popR k;have s1:=ZV s0 dr (.dK (YI (tabV tr) (Sum.inl k)));refine⟨_,rfl,_,_,_,_,rfl,rfl,SqT.of hxt2,rfl,_,rfl,_,_,_,_,rfl,rfl,SqT.of hxt2,rfl,_,rfl,_,_,rfl,w2.gNow,_,_,rfl,rfl,_,rfl,_,_,_,_,rfl,rfl,SqT.of hxt2,rfl,(by show 3<=sizeLine;decide),λy hy=>?_⟩;have w3:=w2.up (Same.upd (o:=.tup (alV ⟨al.name,al.tick+v.now,al.step⟩)) hy);have w03:=w02.up (Same.upd (o:=.tup (alV ⟨al.name,al.tick+v.now,al.step⟩)) (s1.free hy));refine⟨_,rfl,_,_,rfl,w3.gWaits,_,rfl,_,_,rfl,w3.pW k y ⟨al.name,al.tick+v.now,al.step⟩ (by omega),?_⟩;have dd:Does (.on k due) v .non {v with rest:=fput v.rest k none,wait:=fput v.wait k (some ⟨al.name,al.tick+v.now,al.step⟩)}:=by
    rw[Int.add_comm al.tick v.now];exact .onOk e
   exact kk _ _ _ _ _ (((Fr.wr s0 w0.rts (by simp)).trans (Fr.new s1 hy)).trans (Fr.wr (ZV s1 _ _) w03.wts (by simp))) ⟨_,_,w03.putW (k:=k) Zb⟩ dd rfl
def SoonAt(H:Hp)(l:Addr)(tw:TabA):Prop:=∃rs:List (Addr×Int×Int),H l=some (.lst (rs.map λr=>V.ref r.1))/\(∀r∈rs,H r.1=some (.tup [.int r.2.1,.int r.2.2]))/\rs.map (·.2)=tw.map λp=>(p.2.2.tick,p.1)
theorem Sc{te:TE}{σ:St}{q dw dr:Addr}{tw tr:TabA}{v:Vw}{H0 H:Hp}{o:Obj}{Q:VK}(s0:Same H0 H)(w0:WAt H0 q dw dr tw tr v)(hlen:tw.length<=1000)(hσ:blk [none,some 0] σ=[none,some (.ref q)])
 (hte:∀n x a Hi (Q':VK),DGet Hi q (.str "waits") (some (.ref dw))->DGet Hi dw (.int n) (some (.ref x))->Hi x=some (.tup (alV a))->(∀p,Hi p=none->Q' (.ref p) (upd Hi p (.tup [.int a.tick,.int n])))->te [some (.int n),some (.ref q)] Hi Q')
 (hd:∀ls H0' H',Fr [] H0 H H0' H'->SoonAt H0' ls tw->Q (.ref ls) (upd H' dw (.frz o (.dK (tabV tw))))):
  VN (Itd dw o (tabV tw)) [none,some 0] 0 (λ_ H Q=>Q true H) te σ (upd H dw (.frz o (.dK (tabV tw)))) Q:=by
 refine comp_dict (λi ys Hi=>∃H0i Hi' rs,Hi=upd Hi' dw (.frz o (.dK (tabV tw)))/\Fr [] H0 H H0i Hi'/\(rs:List (Addr×Int×Int)).map (·.2)=(tw.take i).map (λp=>(p.2.2.tick,p.1))/\ys=rs.map (λr=>V.ref r.1)/\∀r∈rs,H0i r.1=some (.tup [.int r.2.1,.int r.2.2])) ⟨H0,H,[],rfl,.refl s0,rfl,rfl,λr hr=>by cases hr⟩ ?_ ?_ ?_
 ·rintro i ys Hi hi ⟨H0i,Hi',rs,rfl,f,er,rfl,ht⟩;refine⟨Zb,?_⟩;have:rs.length=(tw.take i).length:=by
   have:=congrArg List.length er;simpa using this
  rw[List.length_map,this,List.length_take];have:(1001:Nat)<=sizeLine:=by decide
  omega
 ·rintro i k y ys Hi N hk ⟨H0i,Hi',rs,rfl,f,er,rfl,ht⟩ kq;have w1:=(w0.up f.grow).up f.same;obtain⟨n,x,al,hi,rfl,rfl,hg,hw,hx⟩:=w1.atW hk;refine iteT ?_;rw[hσ];have hq:upd Hi' dw (.frz o (.dK (tabV tw))) q=some (.dK (wdV v dw dr)):=by rw[Zc w1.n1];exact w1.top
  refine hte n x al _ _ (Rl (v:=v) (dw:=dw) (dr:=dr)▸DGet.k (k:=Sum.inr "waits") hq) (.inl ⟨tabV tw,Sum.inl n,.inr ⟨o,Zb⟩,rfl,(w1.vW hg).symm⟩) (by rw[Zc (λz=>by rw[z,w1.wts] at hx;cases hx)];exact hx) λp hp=>?_;have hpd:dw≠p:=λz=>by rw[←z,Zb] at hp;cases hp
  have hp':Hi' p=none:=by rw[Zc hpd.symm] at hp;exact hp
  refine kq _ _ ⟨upd H0i p (.tup [.int al.tick,.int n]),upd Hi' p (.tup [.int al.tick,.int n]),rs++[(p,al.tick,n)],Ur hpd,f.trans (Fr.new f.same hp'),?_,by simp,λr hr=>?_⟩
  ·rw[List.take_add_one,hi,List.map_append,List.map_append,er];rfl
  ·rcases List.mem_append.mp hr with hr|hr
   ·have:=ht r hr;rw[Zc (Zt this (f.same.free hp'))];exact this
   ·have e:r=(p,al.tick,n):=by simpa using hr
    subst e;exact Zb
 ·rintro ys Hi ⟨H0i,Hi',rs,rfl,f,er,rfl,ht⟩ acc hacc;have hpd:dw≠acc:=λz=>by rw[←z,Zb] at hacc;cases hacc
  have hp':Hi' acc=none:=by rw[Zc hpd.symm] at hacc;exact hacc
  rw[Ur hpd];refine hd acc _ _ (f.trans (Fr.new (o:=.lst (rs.map λr=>V.ref r.1)) f.same hp')) ⟨rs,Zb,λr hr=>?_,?_⟩
  ·have:=ht r hr;rw[Zc (Zt this (f.same.free hp'))];exact this
  ·rw[er,UC,List.take_length]
theorem Fr.at{W:List Addr}{H0 H H1 H1':Hp}(f:Fr W H0 H H1 H1')(s:Same H0 H){x:Addr}{o:HO}(hx:H x=none):Fr W H0 H (upd H1 x o) (upd H1' x o):=
 ⟨ZV f.same x o,λy u hy h=>by rw[Zc (Zt h (s.free hx))];exact f.keep y u hy h,λy u hy h0=>by
  rw[Zc (Zt hy hx),Zc (Zt hy hx)];exact f.own y u hy h0⟩
theorem RingsAt.side{H:Hp}{l x:Addr}{rs:List (Int×Int×Str)}{o:HO}{kvs:List (Key×V)}(r:RingsAt H l rs)(hx:H x=some (.dK kvs)):RingsAt (upd H x o) l rs:=by
 obtain⟨qs,e1,e2,e3⟩:=r;have nt:∀{y:Addr} {u:HO},H y=some u->(∀kvs,u≠.dK kvs)->upd H x o y=some u:=λ{y u} hy hn=>by
  rw[Zc (λz=>by rw[z,hx] at hy;cases hy;exact hn _ rfl)];exact hy
 exact⟨qs,e1,nt e2 (λ_ z=>by cases z),λq' hq=>nt (e3 q' hq) λ_ z=>by cases z⟩
theorem big1m{n:Nat}(h:n<=1000000):n<sizeLine:=Nat.lt_of_le_of_lt h (by decide)
theorem Qm{H:Hp}{ls:Addr}{tw:TabA}{rs:List (Addr×Int×Int)}(nd:(keys tw).Nodup)(er:rs.map (·.2)=tw.map λp=>(p.2.2.tick,p.1)){r:Addr×Int×Int}(hr:r∈rs)(hm:∀r'∈rs,leP r.2 r'.2):
  ∃x al,get tw r.2.2=some (x,al)/\al.tick=r.2.1/\∀m b,fnT tw m=some b->Ahead al.tick r.2.2 b.tick m:=by
 have h1:r.2∈tw.map λp=>(p.2.2.tick,p.1):=by rw[←er];exact List.mem_map.mpr ⟨r,hr,rfl⟩
 obtain⟨p,hp,ep⟩:=List.mem_map.mp h1;obtain⟨n,x,al⟩:=p;have e1:al.tick=r.2.1:=congrArg (·.1) ep;have e2:n=r.2.2:=congrArg (·.2) ep;refine⟨x,al,by rw[←e2];exact VA nd hp,e1,λm b hb=>?_⟩;obtain⟨y,hy⟩:=TV hb;have h2:(b.tick,m)∈rs.map (·.2):=by rw[er];exact List.mem_map.mpr ⟨_,YQ hy,rfl⟩
 obtain⟨r',hr',er'⟩:=List.mem_map.mp h2;have:=hm r' hr';rw[er'] at this;unfold leP at this;rw[e1];exact this
theorem soon_nil{tw:TabA}{rs:List (Addr×Int×Int)}(er:rs.map (·.2)=tw.map λp=>(p.2.2.tick,p.1))(h:rs=[]):∀m,fnT tw m=none:=by
 subst h;cases tw with
 |nil=>exact λm=>rfl
 |cons p t=>cases er
def fPass:Deed->List V->Prop:=λd us=>∃t:Int,d= .pass t/\us=[.int t]
theorem sc__law_pass:FnScope ["_law_world","_law_ticks_here","_law_goal","_law_told","_law_soon","_law_due","_law_number","_law_name","_law_step"] ["_law_world","_law_ticks_here"] (Zd Xw):=Zu
structure Turns(q dw dr:Addr)(H0 H:Hp)(v:Vw)(goal:Int)(lt ls:Addr)(Hi H0i:Hp)(tw tr:TabA)(rs:List (Int×Int×Str)):Prop where
 fr:Fr [q,dw,dr] H0 H H0i Hi
 wd:WAt H0i q dw dr tw tr {v with wait:=fnT tw}
 told:RingsAt H0i lt rs
 new:H lt=none
 soon:SoonAt H0i ls tw
 steps:Steps goal v.wait rs (fnT tw)
abbrev QR(K:W.Frag):TE:=tTup (tCons (tOp (rIxT K) (tDGet (tDGet (tVar 1) (tC (.str "waits"))) (tVar 0)) (tC (.int 1))) (tCons (tVar 0) tNil))
theorem QQ{K:W.Frag}{q dw:Addr}(n:Int)(x:Addr)(a:Al Str)(Hi:Hp)(Q':VK)(h1:DGet Hi q (.str "waits") (some (.ref dw)))(h2:DGet Hi dw (.int n) (some (.ref x)))(h3:Hi x=some (.tup (alV a)))(h4:∀p,Hi p=none->Q' (.ref p) (upd Hi p (.tup [.int a.tick,.int n]))):QR K [some (.int n),some (.ref q)] Hi Q':=
 ⟨_,rfl,_,_,rfl,h1,_,rfl,_,_,rfl,h2,_,_,_,_,rfl,rfl,SqT.of h3,rfl,_,rfl,(by show 2<=sizeLine;decide),h4⟩
set_option maxHeartbeats 1000000 in
theorem Pn(T:Txt K mg a):FnOk P w K mg base (CXe P w) 2 a.f__law_pass a.fd__law_pass ["_law_world","_law_ticks_here"] (spDo fPass):=by
 refine T.F__law_pass.okN sc__law_pass (λvs H Q E h=>?_) (λcdv A' outer s H vs Q E hr h=>?_)
 ·obtain⟨H0,q,dw,dr,v,j,d,us,rfl,⟨t,rfl,rfl⟩,_⟩:=h;rfl
 ·obtain⟨H0,q,dw,dr,v,j,d,us,rfl,⟨t,rfl,rfl⟩,s0,⟨tw,tr,w0⟩,lo,dk,kk⟩:=h;have hu:=YK hr;have w1:=w0.up s0;refine⟨_,Yh,?_⟩;refine Zk (ZG (Zq Sz (pv 1) Zg (Zz _)) (Zf (Zn Zl)) Zv) ?_;refine⟨_,rfl,_,_,rfl,rfl,_,rfl,ite2 (λc=>?_) (λc=>?_)⟩
  ·exact kk H0 H _ v _ (.refl s0) ⟨tw,tr,w0⟩ (.passNo (of_decide_eq_true c)) rfl
  have ht:0<=t:=Int.not_lt.mp λz=>c (decide_eq_true z);obtain⟨_,_,hmu⟩:=dk;have hmu:=hmu ht;refine Zk (Zw (i:=2) sc__law_pass.nd rfl (Or.inl rfl) (Zp ZZ (Zr hu (pv 0) Zl (λ_ _=>rfl)) (pv 1))) ?_;refine⟨_,rfl,_,_,rfl,w1.gNow,_,rfl,_,_,rfl,rfl,?_⟩;refine Zk (Zw (i:=3) sc__law_pass.nd rfl (Or.inl rfl) (YN Ze)) ?_;refine⟨by decide,λlt hlt=>?_⟩;have s1:=ZV s0 lt (.lst []);have w01:=w0.up (Same.upd (o:=.lst []) (s0.free hlt));have w11:=w01.up s1;have f1:Fr [q,dw,dr] H0 H _ _:=Fr.new (o:=.lst []) s0 hlt;refine Zk (UQ (VE (te:=QR K) (NB:=["_law_number","_law_world"]) (fv:=[none,some 0]) (jx:=0) rfl (Va rfl rfl (by decide+kernel)) (Tz (Zr hu (pv 0) Zl (λ_ _=>rfl))) rfl rfl rfl (λ_ _ _=>VU) (λ_ _ _=>(Yv (Za (ZC ZE (Zr hu (Zr hu (pv 1) Zl (λ_ _=>rfl)) (pv 0) (λ_ _=>rfl)) Zg (λ_ _=>rfl)) (Za (pv 0) Ze)))) sc__law_pass.nd (iy:=4) rfl (Or.inl rfl) rfl)) ?_;refine⟨_,rfl,_,_,rfl,w11.gWaits,_,_,rfl,w11.wts,λo nf=>?_⟩;refine Sc s1 w01 (by have:=(w01.lens lo).1;omega) rfl QQ λls H0' H' f2 sn=>?_;refine⟨dw,o,_,nf,Zb,?_⟩;have w02:=w01.up f2.grow;rw[Sx (w02.up f2.same).wts];have lt1:H0' lt=some (.lst []):=f2.grow _ _ Zb;refine Zk (Tx PassesOwn.never (RA (Yf (pv 4) (λ_=>rfl)) (Tw (Zq Qp (ZC ZE (ZF (QI rfl hu) (by rfl) T.b_min boot_min (Za (pv 4) Ze)) Zg (λ_ _=>rfl)) (pv 2) (Zz _)))).pt Yh) ?_;have wT:WAt H0' q dw dr tw tr {v with wait:=fnT tw}:=by rw[w0.ew];exact w02
  have st0:Steps (v.now+t) v.wait [] (fnT tw):=by rw[w0.ew];exact .nil
  have tn0:Turns q dw dr H0 H v (v.now+t) lt ls H' H0' tw tr []:=⟨f1.trans f2.wide,wT,⟨[],rfl,lt1,λq hq=>by cases hq⟩,hlt,sn,st0⟩;obtain⟨mu,emu⟩:∃mu:TabA->Nat,∀t',mu t'=muF (v.now+t) 63 (fnT t'):=⟨_,λ_=>rfl⟩;refine⟨λm σ Hi=>∃H0i twi rs ls x5 x6 x7 x8,σ=[some (.ref q),some (.int t),some (.int (v.now+t)),some (.ref lt),some (.ref ls),x5,x6,x7,x8]/\Turns q dw dr H0 H v (v.now+t) lt ls Hi H0i twi tr rs/\m=mu twi,
   ⟨_,H0',tw,[],ls,none,none,none,none,rfl,tn0,rfl⟩,?_⟩
  rintro m σ Hi ⟨H0i,twi,rs,ls,x5,x6,x7,x8,rfl,g,rfl⟩;have good:=g.steps.good lo.good;have wi:=g.wd.up g.fr.same;obtain⟨prs,hls,hpt,er⟩:=g.soon;have hls':=g.fr.same _ _ hls;have fin:(∀n b,fnT twi n=some b->v.now+t<b.tick)->Q (.ref lt) (upd Hi q (.dK (wdV {v with wait:=fnT twi,now:=v.now+t} dw dr))):=λhb=>by
   refine kk _ _ _ _ _ (g.fr.trans (Fr.wr g.fr.same g.wd.top (by simp))) ⟨_,_,g.wd.wTop (v':={v with wait:=fnT twi,now:=v.now+t}) rfl rfl⟩ (.passOk ht (g.steps.stop hb)) ⟨lt,rfl,?_⟩;exact g.told.side g.wd.top
  by_cases hn:prs=[]
  ·have h0:=soon_nil er hn;subst hn;refine⟨_,rfl,false,.inl ⟨_,SqL.of hls',rfl⟩,iteF (iteF ?_)⟩;refine Zk (YM hu (pv 0) Zl (pv 2) rfl) ?_;refine⟨_,rfl,_,rfl,_,_,rfl,wi.pNow _,?_⟩;refine Yo (Zn (pv 3)) ?_;exact⟨_,rfl,fin λn b e=>by rw[h0 n] at e;cases e⟩
  ·have hne:(prs.map λr=>V.ref r.1)≠[]:=by simpa using hn
   refine⟨_,rfl,true,.inl ⟨_,SqL.of hls',by cases prs with |nil=>exact absurd rfl hn|cons y l=>rfl⟩,iteT ?_⟩;refine⟨_,rfl,ls,prs,rfl,SqL.of hls',hn,(λr hr=>SqT.of (g.fr.same _ _ (hpt r hr))),λr hr hmin=>?_⟩;refine⟨_,_,_,_,rfl,rfl,SqT.of (g.fr.same _ _ (hpt r hr)),rfl,_,rfl,_,_,rfl,rfl,_,rfl,ite2 (λc=>?_) (λc=>?_)⟩
   ·have hc:r.2.1<=v.now+t:=of_decide_eq_true c;refine⟨λσ' H'=>∃H0i' twi' rs' ls' x5 x6 x7 x8,σ'=[some (.ref q),some (.int t),some (.int (v.now+t)),some (.ref lt),some (.ref ls'),x5,x6,x7,x8]/\Turns q dw dr H0 H v (v.now+t) lt ls' H' H0i' twi' tr rs'/\mu twi'<mu twi,
     λσ' H' ⟨H0i',twi',rs',ls',x5,x6,x7,x8,e,g',h⟩=>⟨_,h,H0i',twi',rs',ls',x5,x6,x7,x8,e,g',rfl⟩,?_⟩
    refine Zk (ps_asg (ZF (QI rfl hu) (by rfl) T.b_min boot_min (Za (pv 4) Ze)) (Pg rfl (XH (Yi (i:=5) sc__law_pass.nd rfl (Or.inl rfl)) (XH (Yi (i:=6) sc__law_pass.nd rfl (Or.inl rfl)) SX)))) ?_;refine⟨_,rfl,ls,prs,rfl,SqL.of hls',hn,(λr hr=>SqT.of (g.fr.same _ _ (hpt r hr))),λp hp hpm=>?_⟩;have hpc:p.2.1<=v.now+t:=by
     have:=hpm r hr;unfold leP at this;omega
    obtain⟨x,al,hx,hat,hfirst⟩:=Qm (H:=H0i) (ls:=ls) g.wd.ndw er hp hpm;have nx:Next (v.now+t) (fnT twi) p.2.2 al:=⟨by show (get twi p.2.2).map (·.2)=_;rw[hx];rfl,by omega,hfirst⟩;refine⟨_,_,rfl,SqT.of (g.fr.same _ _ (hpt p hp)),rfl,_,_,rfl,_,_,rfl,rfl,?_⟩;obtain⟨pa,pt,k⟩:=p;obtain⟨nm,tk,sp⟩:=al;have hat:tk=pt:=hat;subst hat;have hx:get twi k=some (x,⟨nm,tk,sp⟩):=hx;have nx:Next (v.now+t) (fnT twi) k ⟨nm,tk,sp⟩:=nx;have hxt:Hi x=some (.tup [.str nm,.int tk,XG sp]):=wi.aw _ (YQ hx);have gk:=wi.gW k;rw[hx] at gk;replace gk:DGet Hi dw (.int k) (some (.ref x)):=gk;change TSem _ (_::_) _ _ _;refine Zk (ps_asg (Zr hu (Zr hu (pv 0) Zl (λ_ _=>rfl)) (pv 6) (λ_ _=>rfl)) (Pg rfl (XH (Yi (i:=7) sc__law_pass.nd rfl (Or.inl rfl)) (XH (Yi (i:=5) sc__law_pass.nd rfl (Or.inl rfl)) (XH (Yi (i:=8) sc__law_pass.nd rfl (Or.inl rfl)) SX))))) ?_;refine⟨_,rfl,_,_,rfl,wi.gWaits,_,rfl,_,_,rfl,gk,_,_,rfl,SqT.of hxt,rfl,_,_,rfl,_,_,rfl,_,_,rfl,rfl,?_⟩;obtain⟨qs,eq,hql,hqt⟩:=g.told;have hql':=g.fr.same _ _ hql;have hlq:qs.length=rs.length:=by rw[←eq,List.length_map]
    have hrl:rs.length<=1000000:=by have:=good.2;omega
    change TSem _ (_::_) _ _ _;refine Zk (ZH (VW F.plainAttrs_list F.slot_list_append F.type_list_append Ua (pv 3) (Za (Yv (Za (pv 5) (Za (pv 6) (Za (pv 7) Ze)))) Ze))) ?_;refine⟨_,rfl,.inl ⟨rfl,_,SqL.of hql'⟩,_,rfl,_,rfl,_,rfl,(by show 3<=sizeLine;decide),λtp htp=>?_⟩;have ntl:lt≠tp:=λz=>by rw[←z,hql'] at htp;cases htp
    refine⟨_,_,_,rfl,rfl,by rw[Zc ntl];exact hql',(by rw[List.length_map];exact big1m (by omega)),?_⟩;have fa:Fr [q,dw,dr] H0 H (upd (upd H0i tp (.tup (Xl (tk,k,nm)))) lt (.lst ((qs.map λq=>V.ref q.1)++[.ref tp]))) (upd (upd Hi tp (.tup [.int tk,.int k,.str nm])) lt (.lst ((qs.map λq=>V.ref q.1)++[.ref tp]))):=(g.fr.trans (Fr.new (o:=.tup (Xl (tk,k,nm))) g.fr.same htp)).at s0 (x:=lt) g.new;have ra:RingsAt (upd (upd H0i tp (.tup (Xl (tk,k,nm)))) lt (.lst ((qs.map λq=>V.ref q.1)++[.ref tp]))) lt (rs++[(tk,k,nm)]):=eq▸RingsAt.snoc (r:=(tk,k,nm)) hql hqt (g.fr.same.free htp);have wa:WAt (upd (upd H0i tp (.tup (Xl (tk,k,nm)))) lt (.lst ((qs.map λq=>V.ref q.1)++[.ref tp]))) q dw dr twi tr {v with wait:=fnT twi}:=by
     have w2:=g.wd.up (Same.upd (o:=.tup (Xl (tk,k,nm))) (g.fr.same.free htp));have hl2:(upd H0i tp (.tup (Xl (tk,k,nm)))) lt=some (.lst (qs.map λq=>V.ref q.1)):=by rw[Zc ntl];exact hql
     have out:∀{y:Addr} {u:HO},(upd H0i tp (.tup (Xl (tk,k,nm)))) y=some u->(∀xs,u≠.lst xs)->upd (upd H0i tp (.tup (Xl (tk,k,nm)))) lt (.lst ((qs.map λq=>V.ref q.1)++[.ref tp])) y=some u:=λ{y u} hy hn=>by
      rw[Zc (λz=>by rw[z,hl2] at hy;cases hy;exact hn _ rfl)];exact hy
     exact⟨out w2.top (λ_ z=>by cases z),out w2.wts (λ_ z=>by cases z),out w2.rts (λ_ z=>by cases z),λp hp=>out (w2.aw p hp) (λ_ z=>by cases z),λp hp=>out (w2.ar p hp) (λ_ z=>by cases z),w2.n1,w2.n2,w2.n3,w2.ndw,w2.ndr,w2.ew,w2.er⟩
    generalize upd (upd H0i tp (.tup (Xl (tk,k,nm)))) lt (.lst ((qs.map λq=>V.ref q.1)++[.ref tp]))=H0a at *;generalize upd (upd Hi tp (.tup [.int tk,.int k,.str nm])) lt (.lst ((qs.map λq=>V.ref q.1)++[.ref tp]))=Ha at *;have sa:=fa.same;have wha:=wa.up sa;refine Zk (ZH (YT (Zr hu (pv 0) Zl (λ_ _=>rfl)) (pv 6) ⟨rfl,rfl,rfl,rfl⟩)) ?_;refine⟨_,rfl,_,_,rfl,wha.gWaits,_,rfl,.inl ⟨_,.inl wha.wts⟩,_,rfl,_,Sum.inl k,.ref x,wha.wts,rfl,wha.vW hx,?_⟩;have wb:=wa.popW k;have fb:=fa.trans (Fr.wr (o:=.dK (YI (tabV twi) (Sum.inl k))) sa wa.wts (by simp));have rb:=ra.side (o:=.dK (YI (tabV twi) (Sum.inl k))) wa.wts;have whb:=wha.popW k;have sb:=fb.same;have mu1:=Uz good.1 nx;have ldr:(drop twi k).length<=63:=Uk (ZL g.wd.ndw k) λn hn=>by
     obtain⟨y,ey⟩:=Option.isSome_iff_exists.mp hn;rw[Zy] at ey;by_cases hk:n=k
     ·rw[if_pos hk] at ey;cases ey
     ·rw[if_neg hk] at ey;have:=(good.1 n y.2 (by show (get twi n).map (·.2)=_;rw[ey];rfl)).1;omega
    cases sp with
    |none=>
     refine Zk (ZG (Zq Ui (pv 8) ZK (Zz _)) (Zf (YM hu (Zr hu (pv 0) Zl (λ_ _=>rfl)) (pv 6) (Yv (Za (pv 7) (Za (Zp ZZ (pv 5) (pv 8)) (Za (pv 8) Ze)))) rfl)) Zv) ?_;refine⟨_,rfl,rfl,_,rfl,iteF ?_⟩;have ef:fnT (drop twi k)=fput (fnT twi) k (after (⟨nm,tk,none⟩:Al Str)):=Ub _ _;refine Yo (UQ (VE (te:=QR K) (NB:=["_law_number","_law_world"]) (fv:=[none,some 0]) (jx:=0) rfl (Va rfl rfl (by decide+kernel)) (Tz (Zr hu (pv 0) Zl (λ_ _=>rfl))) rfl rfl rfl (λ_ _ _=>VU) (λ_ _ _=>(Yv (Za (ZC ZE (Zr hu (Zr hu (pv 1) Zl (λ_ _=>rfl)) (pv 0) (λ_ _=>rfl)) Zg (λ_ _=>rfl)) (Za (pv 0) Ze)))) sc__law_pass.nd (iy:=4) rfl (Or.inl rfl) rfl)) ?_;refine⟨_,rfl,_,_,rfl,whb.gWaits,_,_,rfl,whb.wts,λo nf=>?_⟩;refine Sc sb wb (by omega) rfl QQ λls' H0' H' f2 sn=>?_;refine⟨dw,o,_,nf,Zb,?_⟩;have wc:=wb.up f2.grow;rw[Sx (wc.up f2.same).wts];refine⟨H0',drop twi k,rs++[(tk,k,nm)],ls',_,_,_,_,rfl,⟨fb.trans f2.wide,by rw[Ub];exact wc,rb.up f2.grow,hlt,sn,?_⟩,?_⟩
     ·rw[ef];exact .snoc g.steps nx
     ·rw[emu,emu,ef];omega
    |some st=>
     refine Zk (ZG (Zq Ui (pv 8) ZK (Zz _)) (Zf (YM hu (Zr hu (pv 0) Zl (λ_ _=>rfl)) (pv 6) (Yv (Za (pv 7) (Za (Zp ZZ (pv 5) (pv 8)) (Za (pv 8) Ze)))) rfl)) Zv) ?_;refine⟨_,rfl,rfl,_,rfl,iteT ?_⟩;refine⟨_,rfl,_,rfl,_,rfl,_,_,rfl,rfl,_,rfl,(by show 3<=sizeLine;decide),λy hy=>?_⟩;have wy:=whb.up (Same.upd (o:=.tup (alV ⟨nm,tk+st,some st⟩)) hy);have w0y:=wb.up (Same.upd (o:=.tup (alV ⟨nm,tk+st,some st⟩)) (sb.free hy));refine⟨_,rfl,_,_,rfl,wy.gWaits,_,rfl,_,_,rfl,wy.pW k y ⟨nm,tk+st,some st⟩ (by omega),?_⟩;have wc:=w0y.putW (k:=k) (x:=y) (a:=⟨nm,tk+st,some st⟩) Zb;have whc:=wy.putW (k:=k) (x:=y) (a:=⟨nm,tk+st,some st⟩) Zb;have fc:=(fb.trans (Fr.new (o:=.tup (alV ⟨nm,tk+st,some st⟩)) sb hy)).trans (Fr.wr (o:=.dK (tabV (put (drop twi k) k (y,⟨nm,tk+st,some st⟩)))) (ZV sb _ _) w0y.wts (by simp));have rc:=(rb.up (Same.upd (o:=.tup (alV ⟨nm,tk+st,some st⟩)) (sb.free hy))).side (o:=.dK (tabV (put (drop twi k) k (y,⟨nm,tk+st,some st⟩)))) w0y.wts;have ef:fnT (put (drop twi k) k (y,⟨nm,tk+st,some st⟩))=fput (fnT twi) k (after (⟨nm,tk,some st⟩:Al Str)):=by
      rw[Re,Ub,fput_fput];rfl
     have lpt:(put (drop twi k) k (y,⟨nm,tk+st,some st⟩)).length<=64:=by
      have:=congrArg List.length (Ul (t:=drop twi k) (n:=k) (y,(⟨nm,tk+st,some st⟩:Al Str)) (by rw[Zy,if_pos rfl]));simp[keys] at this;omega
     refine Yo (UQ (VE (te:=QR K) (NB:=["_law_number","_law_world"]) (fv:=[none,some 0]) (jx:=0) rfl (Va rfl rfl (by decide+kernel)) (Tz (Zr hu (pv 0) Zl (λ_ _=>rfl))) rfl rfl rfl (λ_ _ _=>VU) (λ_ _ _=>(Yv (Za (ZC ZE (Zr hu (Zr hu (pv 1) Zl (λ_ _=>rfl)) (pv 0) (λ_ _=>rfl)) Zg (λ_ _=>rfl)) (Za (pv 0) Ze)))) sc__law_pass.nd (iy:=4) rfl (Or.inl rfl) rfl)) ?_;refine⟨_,rfl,_,_,rfl,whc.gWaits,_,_,rfl,whc.wts,λo nf=>?_⟩;refine Sc fc.same wc (by omega) rfl QQ λls' H0' H' f2 sn=>?_;refine⟨dw,o,_,nf,Zb,?_⟩;have wd:=wc.up f2.grow;rw[Sx (wd.up f2.same).wts];refine⟨H0',put (drop twi k) k (y,⟨nm,tk+st,some st⟩),rs++[(tk,k,nm)],ls',_,_,_,_,rfl,⟨fc.trans f2.wide,?_,rc.up f2.grow,hlt,sn,?_⟩,?_⟩
     ·rw[Re,Ub];exact wd
     ·rw[ef];exact .snoc g.steps nx
     ·rw[emu,emu,ef];omega
   ·have hc: ¬r.2.1<=v.now+t:=λz=>c (decide_eq_true z);refine Zk (YM hu (pv 0) Zl (pv 2) rfl) ?_;refine⟨_,rfl,_,rfl,_,_,rfl,wi.pNow _,?_⟩;refine Yo (Zn (pv 3)) ?_;refine⟨_,rfl,fin λn b e=>?_⟩;obtain⟨x,al,_,hat,hfirst⟩:=Qm (H:=H0i) (ls:=ls) g.wd.ndw er hr hmin;have:=hfirst n b e;unfold Ahead at this;omega
theorem wd_merge{v:Vw}{dw dr:Addr}:Sq [] (wdV v dw dr)=wdV v dw dr:=by kernel_rfl
theorem pow_le64b{S:Int}(h1:2<=S)(h2:S<=64)(i:Nat):0<=S ^ i/\S ^ i<=64 ^ i:=by
 induction i with
 |zero=>rw[Int.pow_zero,Int.pow_zero];decide
 |succ i ih=>
  rw[Int.pow_succ,Int.pow_succ];exact⟨Int.mul_nonneg ih.1 (by omega),Int.mul_le_mul ih.2 h2 (by omega) (Int.le_trans ih.1 ih.2)⟩
theorem pow6{S:Int}(h1:2<=S)(h2:S<=64){i:Nat}(hi:i<=6):S ^ i<=68719476736:=by
 have h:∀i:Fin 7,(64:Int) ^ i.1<=68719476736:=by decide
 exact Int.le_trans (pow_le64b h1 h2 i).2 (h ⟨i,by omega⟩)
theorem YY{x y:Str}(h:x≠y): ¬V.str x=V.str y:=λz=>h (by injection z)
def spNew:Sp:=λvs H Q _=>∃(S:Int) (n:Nat),vs=[.int S,.int n]/\∀q dw dr,H q=none->upd H q (.dK []) dw=none->upd (upd H q (.dK [])) dw (.dK []) dr=none->Q (.ref q) (upd (upd (upd (upd H q (.dK [])) dw (.dK [])) dr (.dK [])) q (.dK (wdV (newV S n) dw dr)))
theorem sc__law_new:FnScope ["_law_slots","_law_levels"] ["_law_slots","_law_levels"] (Zd XU):=Zu
theorem ok__law_new(T:Txt K mg a):FnOk P w K mg base (CXe P w) 1 a.f__law_new a.fd__law_new ["_law_slots","_law_levels"] spNew:=by
 refine T.F__law_new.okN sc__law_new (λvs H Q E h=>?_) (λcdv A' outer s H vs Q E hr h=>?_)
 ·obtain⟨S,n,rfl,_⟩:=h;rfl
 ·obtain⟨S,n,rfl,kk⟩:=h;refine⟨_,(Zf (Zn (pe_disp (VS Zl (pv 0) (VS Zl (pv 1) (VS Zl Zg (VS Zl Zg (VS Zl XI (VS Zl XI pps_nil)))))) rfl rfl (λz=>by cases z) (by decide)))),?_⟩;refine λq hq=>⟨_,rfl,_,rfl,λdw hdw dr hdr=>⟨?_,wdV (newV S n) dw dr,rfl,(by show 6<=15;decide),?_⟩⟩
  ·have n1:q≠dr:=λz=>by
    have h1:upd (upd H q (.dK [])) dw (.dK []) q≠none:=by
     unfold upd;by_cases e:q=dw<;>simp[e]
    rw[←z] at hdr;exact h1 hdr
   have n2:q≠dw:=λz=>by rw[←z,Zb] at hdw;cases hdw
   rw[Zc n1,Zc n2];exact Zb
  ·rw[wd_merge];exact kk q dw dr hq hdw hdr
def spWheels(K:W.Frag):Sp:=λvs H Q _=>∃(l:Addr) (ns:List Int) (k:Int),vs=[.ref l,.int k]/\SqL K H l (ns.map V.int)/\∀(S:Int) (n:Nat) (H':Hp) (p:Addr),(2<=S/\S<=64)->(1<=n/\n<=6)->Same H H'->H' p=some (.tup [.int S,.int n])->Q (.ref p) H'
theorem sc__law_wheels:FnScope ["_law_script","_law_k","_law_number"] ["_law_script","_law_k"] (Zd YV):=Zu
theorem RE(T:Txt K mg a):FnOk P w K mg base (CXe P w) 3 a.f__law_wheels a.fd__law_wheels ["_law_script","_law_k"] (spWheels K):=by
 have G__law_mix:=VJ (P:=P) (w:=w) (base:=base) T;refine T.F__law_wheels.okN sc__law_wheels (λvs H Q E h=>?_) (λcdv A' outer s H vs Q E hr h=>?_)
 ·obtain⟨l,ns,k,rfl,_⟩:=h;rfl
 ·obtain⟨l,ns,k,rfl,hl,kk⟩:=h;refine⟨_,Yh,?_⟩;refine Zk (Zw (i:=2) sc__law_wheels.nd rfl (Or.inl rfl) (ZA G__law_mix (hr.mono (by decide)) (by rfl) T.f__law_mix T.kp__law_mix T.B__law_mix .nil ZB (Za (pv 0) (Za (pv 1) Ze)))) ?_;refine⟨_,rfl,_,rfl,l,ns,k,rfl,hl,λm g0 g1=>?_⟩;change TSem _ (_::_) _ _ _;generalize hL1:Expr.List (Expr.Constant (.int 2) _ _::_) _=L1;generalize hL2:Expr.List (Expr.Constant (.int 1) _ _::_) _=L2;refine Yo (Zn (Yv (Za (ZC Ye (Ph hL1 rfl) (Zp ZT (pv 2) Zg) (λ_ _=>rfl)) (Za (ZC Ye (Ph hL2 rfl) (Zp ZT (Zp ZI (pv 2) Zg) Zg) (λ_ _=>rfl)) Ze)))) ?_;clear hL1 hL2;refine⟨by decide,λq1 hq1=>?_⟩;obtain⟨S,hS1,hS2⟩:=pickI (ns:=[2,2,3,4,10,64]) (i:=m % 6) (Int.emod_nonneg _ (by decide)) (Int.emod_lt_of_pos _ (by decide));have hSb:2<=S/\S<=64:=by simp at hS2;omega
  refine⟨_,rfl,_,_,rfl,rfl,(by show (0:Int)<6;decide),_,_,_,.int S,rfl,rfl,SqL.of Zb,hS1,?_⟩;refine⟨by decide,λq2 hq2=>?_⟩;obtain⟨n,hn1,hn2⟩:=pickI (ns:=[1,2,3,4,5,6]) (i:=m/6 % 6) (Int.emod_nonneg _ (by decide)) (Int.emod_lt_of_pos _ (by decide));have hnb:1<=n/\n<=6:=by simp at hn2;omega
  refine⟨_,rfl,_,_,rfl,rfl,⟨by decide,by decide⟩,_,_,rfl,rfl,(by show (0:Int)<6;decide),_,_,_,.int n,rfl,rfl,SqL.of Zb,hn1,(by show 2<=sizeLine;decide),λp hp=>?_⟩;obtain⟨n',rfl⟩:∃n':Nat,n=(n':Int):=⟨n.toNat,by omega⟩;exact kk S n' _ p hSb (by omega) ((Same.upd hq1).trans ((Same.upd hq2).trans (Same.upd hp))) Zb
def spTicks(K:W.Frag):Sp:=λvs H Q _=>∃(H0:Hp) (l:Addr) (ns:List Int) (k:Int) (q dw dr:Addr) (v:Vw) (j:Nat),vs=[.ref l,.int k,.ref q]/\SqL K H l (ns.map V.int)/\Same H0 H/\Wld H0 q dw dr v/\LOk j v/\
 ∀(H0' H':Hp) (t:Int),Fr [] H0 H H0' H'->0<=t->t<=10000000000000->Q (.int t) H'
theorem sc__law_ticks:FnScope ["_law_script","_law_k","_law_world","_law_number","_law_span","_law_j","_law_some"] ["_law_script","_law_k","_law_world"] (Zd Xg):=Zu
set_option maxHeartbeats 2000000 in
theorem Td(T:Txt K mg a):FnOk P w K mg base (CXe P w) 3 a.f__law_ticks a.fd__law_ticks ["_law_script","_law_k","_law_world"] (spTicks K):=by
 have G__law_mix:=VJ (P:=P) (w:=w) (base:=base) T;refine T.F__law_ticks.okN sc__law_ticks (λvs H Q E h=>?_) (λcdv A' outer s H vs Q E hr h=>?_)
 ·obtain⟨H0,l,ns,k,q,dw,dr,v,j,rfl,_⟩:=h;rfl
 ·obtain⟨H0,l,ns,k,q,dw,dr,v,j,rfl,hl,s0,⟨tw,tr,w0⟩,lo,kk⟩:=h;have hu:=YK hr;have w1:=w0.up s0;obtain⟨a1,a2⟩:=lo.sl;refine⟨_,Yh,?_⟩;refine Zk (Zw (i:=3) sc__law_ticks.nd rfl (Or.inl rfl) (ZA G__law_mix (hr.mono (by decide)) (by rfl) T.f__law_mix T.kp__law_mix T.B__law_mix .nil ZB (Za (pv 0) (Za (pv 1) Ze)))) ?_;refine⟨_,rfl,_,rfl,l,ns,k,rfl,hl,λm g0 g1=>?_⟩;refine Zk (Zw (i:=4) sc__law_ticks.nd rfl (Or.inl rfl) Zg) ?_;refine Zk (Vx PassesOwn.never rfl (Sk rfl T.b_range (Za (Zp ZT (Zp ZI (pv 3) Zg) Zg) Ze)) (Yi (i:=5) sc__law_ticks.nd rfl (Or.inl rfl)) (Zf (Zw (i:=4) sc__law_ticks.nd rfl (Or.inl rfl) (Zp Vh (pv 4) (Zr hu (pv 2) Zl (λ_ _=>rfl)))))) ?_;have e3:=Int.emod_nonneg (m/8) (b:=7) (by omega);have e4:=Int.emod_lt_of_pos (m/8) (b:=7) (by omega);refine⟨_,rfl,_,_,rfl,rfl,⟨by decide,by decide⟩,_,_,rfl,rfl,(by show (0:Int)<7;decide),_,rfl,(by omega),(by omega),?_⟩;refine UU (lo:=0) (n:=(m/8 % 7).toNat) (λi σ Hi=>∃x,σ=[some (.ref l),some (.int k),some (.ref q),some (.int m),some (.int (v.S ^ i)),x,none]/\Hi=H) ⟨none,by rw[Int.pow_zero];rfl,rfl⟩ ?_ ?_
  ·rintro i σ Hi hi ⟨x,rfl,rfl⟩;obtain⟨z1,z2⟩:=Vs a1 a2 (i:=i) (by omega);refine⟨_,rfl,_,rfl,_,_,rfl,w1.gSlots,_,_,rfl,rfl,.inl ⟨by omega,Int.lt_of_le_of_lt z2 (by decide)⟩,some (.int (0+(i:Int))),?_,rfl⟩;rw[Int.pow_succ];rfl
  ·rintro σ Hi ⟨x5,rfl,rfl⟩;obtain⟨z1,z2⟩:=Vs a1 a2 (i:=(m/8 % 7).toNat) (by omega);have z3:v.S ^ (m/8 % 7).toNat<=68719476736:=pow6 a1 a2 (by omega);generalize v.S ^ (m/8 % 7).toNat=sp at z1 z2 z3;refine Zk (Zw (i:=6) sc__law_ticks.nd rfl (Or.inl rfl) (YN (Za (Zp ZT (Zp ZI (pv 3) Zg) Zg) (Za (pv 4) (Za (Zp Vy (pv 4) Zg) (Za (Zp ZZ (pv 4) Zg) (Za (Zp ZT (Zp ZI (pv 3) Zg) Zg) (Za (Zp ZT (Zp ZI (pv 3) Zg) (Zp Vh (pv 4) Zg)) Ze)))))))) ?_;have f1:=Int.emod_nonneg (m/64) (b:=sp * 3) (by omega);have f2:=Int.emod_lt_of_pos (m/64) (b:=sp * 3) (by omega);refine⟨_,rfl,_,_,rfl,rfl,⟨by decide,by decide⟩,_,_,rfl,rfl,(by show (0:Int)<5;decide),_,rfl,_,rfl,_,_,rfl,rfl,_,rfl,_,_,rfl,rfl,_,rfl,_,_,rfl,rfl,⟨by decide,by decide⟩,_,_,rfl,rfl,(by show (0:Int)<200;decide),_,rfl,_,_,rfl,rfl,⟨by decide,by decide⟩,_,rfl,_,_,rfl,rfl,.inr ⟨by decide,by decide⟩,_,_,rfl,rfl,(by show (0:Int)<sp * 3;omega),(by show 6<=sizeLine;decide),λq1 hq1=>?_⟩;refine Yo (Zn (ZC Ye (Zp op_cat (pv 6) (YN (Za (Zp ZT (Zp ZI (pv 3) Zg) Zg) (Za Zg Ze)))) (Zp ZT (pv 3) Zg) (λ_ _=>rfl))) ?_;refine⟨_,rfl,_,rfl,_,_,rfl,rfl,⟨by decide,by decide⟩,_,_,rfl,rfl,(by show (0:Int)<20;decide),(by show 2<=sizeLine;decide),λq2 hq2=>?_⟩;have n12:q1≠q2:=λz=>by rw[←z,Zb] at hq2;cases hq2
   refine⟨_,_,_,_,rfl,rfl,by rw[Zc n12];exact Zb,Zb,(by show 6+2<=sizeLine;decide),λq3 hq3=>?_⟩;obtain⟨tk,ht1,ht2⟩:=pickI (ns:=[m/64 % 5,sp,sp-1,sp+1,m/64 % 200,m/64 % (sp * 3),m/64 % 20,10000000000000]) (i:=m % 8) (Int.emod_nonneg _ (by decide)) (Int.emod_lt_of_pos _ (by decide));have htk:0<=tk/\tk<=10000000000000:=by
    simp at ht2;omega
   refine⟨_,rfl,_,_,rfl,rfl,(by show (0:Int)<8;decide),_,_,_,.int tk,rfl,rfl,SqL.of Zb,ht1,?_⟩;exact kk _ _ tk ((Fr.new s0 hq1).trans ((Fr.new (ZV s0 _ _) hq2).trans (Fr.new (ZV (ZV s0 _ _) _ _) hq3))) htk.1 htk.2
noncomputable def Vk:Deed->List V
 | .set due step name=>[.str "set",.int due,XG step,.str name]
 | .pass t=>[.str "pass",.int t,.non,.str ""]
 | .move k due=>[.str "move",.int k,.int due,.str ""]
 | .back k due=>[.str "back",.int k,.int due,.str ""]
 | .rest k due=>[.str "rest",.int k,.int due,.str ""]
 | .on k due=>[.str "on",.int k,.int due,.str ""]
noncomputable def Yw(t:Int)(tw:TabA):List Int:=tw.filterMap λp=>p.2.2.step.map λs=>t/s
theorem stepsOf_mem{t:Int}{tw:TabA}{p:Int×Addr×Al Str}{s:Int}(hp:p∈tw)(hs:p.2.2.step=some s):t/s∈Yw t tw:=List.mem_filterMap.mpr ⟨p,hp,by rw[hs];rfl⟩
theorem stepsOf_nn{t:Int}{tw:TabA}(h:0<=t)(hs:∀p∈tw,∀s,p.2.2.step=some s->0<s):∀x∈Yw t tw,0<=x:=λx hx=>by
 obtain⟨p,hp,e⟩:=List.mem_filterMap.mp hx;cases es:p.2.2.step with
 |none=>rw[es] at e;cases e
 |some s=>
  rw[es] at e;cases e;exact Int.ediv_nonneg h (Int.le_of_lt (hs p hp s es))
def spDeed(K:W.Frag):Sp:=λvs H Q _=>∃(H0:Hp) (l:Addr) (ns:List Int) (k:Int) (q dw dr:Addr) (v:Vw) (j:Nat),vs=[.ref l,.int k,.ref q]/\SqL K H l (ns.map V.int)/\Same H0 H/\Wld H0 q dw dr v/\LOk j v/\
 ∀(H0' H':Hp) (td:Addr) (d:Deed),Fr [] H0 H H0' H'->H0' td=some (.tup (Vk d))->RW v d->Q (.ref td) H'
theorem sc__law_deed:FnScope ["_law_script","_law_k","_law_world","_law_number","_law_word","_law_ticks_here","_law_rings","_law_step","_law_at"] ["_law_script","_law_k","_law_world"] (Zd Xz):=Zu
abbrev SW(K:W.Frag):TT:=tTest (tOp (λx y H Q=>y= .non/\Q (.bl (!decide (x= .non))) H) (tOp (rIxT K) (tVar 0) (tC (.int 2))) (tC .non))
abbrev teRings(K:W.Frag):TE:=tOp (rI CDivB λi j=>.int (i/j)) (tVar 1) (tOp (rIxT K) (tVar 0) (tC (.int 2)))
theorem rings_comp{σ:St}{q dw dr:Addr}{tw tr:TabA}{v:Vw}{j:Nat}{H0 H:Hp}{o:Obj}{Q:VK}{t:Int}(s0:Same H0 H)(w0:WAt H0 q dw dr tw tr v)(lo:LOk j v)(hσ:blk [none,some 5] σ=[none,some (.int t)])
 (hd:∀acc H',H acc=none->H'=upd H acc (.lst ((Yw t tw).map V.int))->acc≠dw->Q (.ref acc) (upd H' dw (.frz o (.dK (tabV tw))))):
  VN (Itv dw o (tabV tw)) [none,some 5] 0 (SW K) (teRings K) σ (upd H dw (.frz o (.dK (tabV tw)))) Q:=by
 have w1:=w0.up s0;have lz:=(w0.lens lo).1;refine Sv (λi ys Hi=>Hi=upd H dw (.frz o (.dK (tabV tw)))/\ys=(Yw t (tw.take i)).map V.int) ⟨rfl,rfl⟩ ?_ ?_ ?_
 ·rintro i ys Hi hi ⟨rfl,rfl⟩;refine⟨Zb,?_⟩;rw[List.length_map];have:(Yw t (tw.take i)).length<=(tw.take i).length:=List.length_filterMap_le ..;rw[List.length_take] at this;have:(1001:Nat)<=sizeLine:=by decide
  omega
 ·rintro i k y ys Hi N hk ⟨rfl,rfl⟩ kq;obtain⟨n,x,al,hi,rfl,rfl,hg,hw,hx⟩:=w1.atW hk;rw[hσ];have hx':upd H dw (.frz o (.dK (tabV tw))) x=some (.tup (alV al)):=by rw[Zc (λz=>by rw[z,w1.wts] at hx;cases hx)];exact hx
  have ex:Yw t (tw.take (i+1))=Yw t (tw.take i)++Yw t [(n,x,al)]:=by
   unfold Yw;rw[List.take_add_one,hi,List.filterMap_append];rfl
  obtain⟨nm,tk,sp⟩:=al;cases sp with
  |none=>
   refine⟨_,rfl,_,_,_,_,rfl,rfl,SqT.of hx',rfl,rfl,_,rfl,iteF (kq _ _ ⟨rfl,?_⟩)⟩;rw[ex,show Yw t [(n,x,(⟨nm,tk,none⟩:Al Str))]=[] from rfl,List.append_nil]
  |some st=>
   obtain⟨st1,st2⟩:=(lo.wait n _ hw).2.2.st st rfl;refine⟨_,rfl,_,_,_,_,rfl,rfl,SqT.of hx',rfl,rfl,_,rfl,iteT ⟨_,rfl,_,rfl,_,_,_,_,rfl,rfl,SqT.of hx',rfl,_,_,rfl,rfl,⟨st1,Int.lt_trans st2 (by decide)⟩,kq _ _ ⟨rfl,?_⟩⟩⟩;rw[ex,List.map_append];rfl
 ·rintro ys Hi ⟨rfl,rfl⟩ acc hacc;have hpd:dw≠acc:=λz=>by rw[←z,Zb] at hacc;cases hacc
  have hp':H acc=none:=by rw[Zc hpd.symm] at hacc;exact hacc
  rw[Ur hpd,UC,List.take_length];exact hd acc _ hp' rfl hpd.symm
theorem tick_or{b:Bool}{t:Int}:t-(if b=true then 1 else 0) * (t+1)=t\/t-(if b=true then 1 else 0) * (t+1)= -1:=by
 cases b
 ·left;simp
 ·right;simp;omega
theorem okS{x:Str}(h:x∈(["a","","b c"]:List Str)):PyData.strOk x=true:=by
 have h1:PyData.strOk ("a":Str)=true:=by decide+kernel
 have h2:PyData.strOk ("":Str)=true:=by decide+kernel
 have h3:PyData.strOk ("b c":Str)=true:=by decide+kernel
 simp only[List.mem_cons,List.not_mem_nil,or_false] at h;rcases h with h|h|h
 ·rw[h];exact h1
 ·rw[h];exact h2
 ·rw[h];exact h3
set_option maxHeartbeats 8000000 in
theorem Pq(T:Txt K mg a):FnOk P w K mg base (CXe P w) 4 a.f__law_deed a.fd__law_deed ["_law_script","_law_k","_law_world"] (spDeed K):=by
 have G__law_mix:=VJ (P:=P) (w:=w) (base:=base) T;have G__law_ticks:=Td (P:=P) (w:=w) (base:=base) T;refine T.F__law_deed.okN sc__law_deed (λvs H Q E h=>?_) (λcdv A' outer s H vs Q E hr h=>?_)
 ·obtain⟨H0,l,ns,k,q,dw,dr,v,j,rfl,_⟩:=h;rfl
 ·obtain⟨H0,l,ns,k,q,dw,dr,v,j,rfl,hl,s0,⟨tw,tr,w0⟩,lo,kk⟩:=h;have hu:=YK hr;have n1:=lo.now;have n2:=lo.next;have n3:=lo.j24;refine⟨_,Yh,?_⟩;refine Zk (Zw (i:=3) sc__law_deed.nd rfl (Or.inl rfl) (ZA G__law_mix (hr.mono (by decide)) (by rfl) T.f__law_mix T.kp__law_mix T.B__law_mix .nil ZB (Za (pv 0) (Za (pv 1) Ze)))) ?_;refine⟨_,rfl,_,rfl,l,ns,k,rfl,hl,λm g0 g1=>?_⟩;change TSem _ (_::_) _ _ _;generalize hL1:Expr.List _ _=L1;refine Zk (Zw (i:=4) sc__law_deed.nd rfl (Or.inl rfl) (ZC Ye (Ph hL1 rfl) (Zp ZT (pv 3) Zg) (λ_ _=>rfl))) ?_;clear hL1;refine⟨by decide,λq1 hq1=>?_⟩;obtain⟨wd,hw1,hw2⟩:=pickS (ns:=["set","set","set","pass","pass","move","back","rest","on","set","on"]) (i:=m % 11) (Int.emod_nonneg _ (by decide)) (Int.emod_lt_of_pos _ (by decide));refine⟨_,rfl,_,_,rfl,rfl,(by show (0:Int)<11;decide),_,_,_,.str wd,rfl,rfl,SqL.of Zb,hw1,?_⟩;generalize hH1:upd H q1 _=H1;have hl1:SqL K H1 l (ns.map V.int):=by rw[←hH1];exact(Same.upd hq1).seq hl
  obtain⟨H01,f1⟩:∃H01,Fr [] H0 H H01 H1:=by rw[←hH1];exact⟨_,Fr.new s0 hq1⟩
  clear hH1 hq1 hw1;have w01:=w0.up f1.grow;refine Zk (Zw (i:=5) sc__law_deed.nd rfl (Or.inr rfl) (ZA G__law_ticks (hr.mono (by decide)) (by rfl) T.f__law_ticks T.kp__law_ticks T.B__law_ticks .nil ZB (Za (pv 0) (Za (Zp ZZ (pv 1) Zg) (Za (pv 2) Ze))))) ?_;refine⟨_,rfl,_,rfl,_,_,rfl,rfl,_,rfl,H01,l,ns,k+1,q,dw,dr,v,j,rfl,hl1,f1.same,⟨tw,tr,w01⟩,lo,λH02 H2 t f2 t0 t1=>?_⟩;have f:=f1.trans f2;have s2:=f.same;have w02:=w0.up f.grow;have w2:=w02.up s2;by_cases hp:wd="pass"
  ·subst hp;refine Zk (ZG (Zq XF (pv 4) Zl (Zz _)) Yh Zv) ?_;refine⟨_,rfl,rfl,_,rfl,?_⟩;rw[decide_eq_true rfl];refine iteT ?_;refine Zk (Zw (i:=6) sc__law_deed.nd rfl (Or.inl rfl) (ZF (call_sumI rfl) (by rfl) T.b_sum boot_sum (Za (pe_thaw (TB (te:=teRings K) (tc:=SW K) (NB:=["_law_one","_law_ticks_here"]) (fv:=[none,some 5]) (jx:=0) rfl (Va rfl rfl (by decide+kernel)) (Pf (pe_bm0 F.plainAttrs_dict F.slot_dict_values F.type_dict_values Py (Zr hu (pv 2) Zl (λ_ _=>rfl)))) rfl rfl rfl (λ_ _ _=>pifs_one (Zq Ui (ZC ZE (pv 0) Zg (λ_ _=>rfl)) ZK (Zz _))) (λ_ _ _=>(Zp ZI (pv 1) (ZC ZE (pv 0) Zg (λ_ _=>rfl)))))) Ze))) ?_;refine⟨_,rfl,_,_,rfl,w2.gWaits,.inr (.inr (.inl ⟨rfl,.inl ⟨_,w2.wts⟩⟩)),dw,_,rfl,rfl,w2.wts,λvv hvv=>?_⟩;have f3:=f.trans (Fr.new (o:=VC vv dw) s2 hvv);have w03:=w0.up f3.grow;have w3:=w03.up f3.same;refine⟨vv,dw,_,rfl,Zb,w3.wts,λo nf=>?_⟩;refine rings_comp f3.same w03 lo rfl λacc H' hacc e hne=>?_;refine⟨dw,o,_,nf,Zb,?_⟩;have f4:=f3.trans (Fr.new (o:=.lst ((Yw t tw).map V.int)) f3.same hacc);rw[←e] at f4;have hac:H' acc=some (.lst ((Yw t tw).map V.int)):=by rw[e];exact Zb
   have w04:=w0.up f4.grow;have w4:=w04.up f4.same;rw[Sx w4.wts];refine⟨acc,Yw t tw,rfl,SqL.of hac,?_⟩;have nn:∀x∈Yw t tw,0<=x:=stepsOf_nn t0 λp hp s hs=>by
    obtain⟨n,x,al⟩:=p;have hg:=VA w0.ndw hp;exact((lo.wait n al (by rw[←w0.ew];show (get tw n).map (·.2)=_;rw[hg];rfl)).2.2.st s hs).1
   refine Zk (ZG (Zq op_gt (pv 6) Zg (Zz _)) (Zf (Zw (i:=5) sc__law_deed.nd rfl (Or.inr rfl) (Zp ZT (pv 5) Zg))) Zv) ?_;refine⟨_,rfl,_,_,rfl,rfl,_,rfl,ite2 (λc=>?_) (λc=>?_)⟩
   ·refine⟨_,rfl,_,_,rfl,rfl,(by show (0:Int)<30;decide),?_⟩;have t2:=Int.emod_nonneg t (b:=30) (by decide);have t3:=Int.emod_lt_of_pos t (b:=30) (by decide);refine Yo (Zn (Yv (Za (pv 4) (Za (Zp Vy (pv 5) (Zp Vh (UR QJ rfl T.b_int PyProof.Rows.boot_int (Za (SZ XF (Zp ZT (Zp ZI (pv 3) Zg) Zg) Zg (Zz _)) Ze)) (Zp ZZ (pv 5) Zg))) (Za ZK (Za Zl Ze)))))) ?_;refine⟨_,rfl,_,rfl,_,rfl,_,_,rfl,rfl,⟨by decide,by decide⟩,_,_,rfl,rfl,(by show (0:Int)<24;decide),rfl,.inr ⟨_,rfl,_,rfl,_,_,rfl,rfl,_,_,rfl,rfl,.inr ⟨by omega,by omega⟩,_,_,rfl,rfl,(by show 4<=sizeLine;decide),λtd htd=>?_⟩⟩;refine kk _ _ td (.pass _) (f4.trans (Fr.new f4.same htd)) Zb ?_;rcases tick_or (b:=decide (V.int (m/11 % 24)=V.int 0)) (t:=t % 30) with e|e
    ·rw[e];exact⟨XM (by omega) (by omega),by omega,λ_=>mu_few lo (λk al s h1 h2=>div_small t2 t3 ((lo.wait k al h1).2.2.st s h2).1) t2⟩
    ·rw[e];exact⟨XM (by omega) (by omega),by omega,λz=>by omega⟩
   ·have c':(Yw t tw).sum<=60:=by
     have: ¬60<(Yw t tw).sum:=λz=>c (decide_eq_true z);omega
    refine Yo (Zn (Yv (Za (pv 4) (Za (Zp Vy (pv 5) (Zp Vh (UR QJ rfl T.b_int PyProof.Rows.boot_int (Za (SZ XF (Zp ZT (Zp ZI (pv 3) Zg) Zg) Zg (Zz _)) Ze)) (Zp ZZ (pv 5) Zg))) (Za ZK (Za Zl Ze)))))) ?_;refine⟨_,rfl,_,rfl,_,rfl,_,_,rfl,rfl,⟨by decide,by decide⟩,_,_,rfl,rfl,(by show (0:Int)<24;decide),rfl,.inr ⟨_,rfl,_,rfl,_,_,rfl,rfl,_,_,rfl,rfl,.inr ⟨by omega,by omega⟩,_,_,rfl,rfl,(by show 4<=sizeLine;decide),λtd htd=>?_⟩⟩;refine kk _ _ td (.pass _) (f4.trans (Fr.new f4.same htd)) Zb ?_;rcases tick_or (b:=decide (V.int (m/11 % 24)=V.int 0)) (t:=t) with e|e
    ·rw[e];refine⟨XM (by omega) (by omega),by omega,λ_=>mu_few lo (λk al s h1 h2=>?_) t0⟩;obtain⟨x,hx,_⟩:=w0.getW h1;exact sum_each nn c' _ (stepsOf_mem (YQ hx) h2)
    ·rw[e];exact⟨XM (by omega) (by omega),by omega,λz=>by omega⟩
  ·refine Zk (ZG (Zq XF (pv 4) Zl (Zz _)) Yh Zv) ?_;refine⟨_,rfl,rfl,_,rfl,?_⟩;rw[decide_eq_false (YY hp)];refine iteF ?_;by_cases hs:wd="set"
   ·subst hs;refine Zk (ZG (Zq XF (pv 4) Zl (Zz _)) Yh Zv) ?_;refine⟨_,rfl,rfl,_,rfl,?_⟩;rw[decide_eq_true rfl];refine iteT ?_;refine Zk (Zw (i:=7) sc__law_deed.nd rfl (Or.inl rfl) ZK) ?_;refine Zk (ZG (Zq XF (Zp ZT (Zp ZI (pv 3) Zg) Zg) Zg (Zz _)) (Zf (Zw (i:=7) sc__law_deed.nd rfl (Or.inl rfl) (ZC Ye (YN (Za Zg (Za Zg (Za Zg (Za Zg (Za Zg (Za (pv 5) Ze))))))) (Zp ZT (Zp ZI (pv 3) Zg) Zg) (λ_ _=>rfl)))) Zv) ?_;obtain⟨nm,hn1,hn2⟩:=pickS (ns:=["a","","b c"]) (i:=m/264 % 3) (Int.emod_nonneg _ (by decide)) (Int.emod_lt_of_pos _ (by decide));refine⟨_,rfl,_,_,rfl,rfl,⟨by decide,by decide⟩,_,_,rfl,rfl,(by show (0:Int)<4;decide),rfl,_,rfl,ite2 (λc=>?_) (λc=>?_)⟩
    ·obtain⟨st,hst1,hst2⟩:=pickI (ns:=[1,2,3,7,0,t]) (i:=m/44 % 6) (Int.emod_nonneg _ (by decide)) (Int.emod_lt_of_pos _ (by decide));have hst:0<=st/\st<=10000000000000:=by
      simp at hst2;omega
     refine⟨_,rfl,(by show 6<=sizeLine;decide),λq3 hq3=>?_⟩;refine⟨_,rfl,_,_,rfl,rfl,⟨by decide,by decide⟩,_,_,rfl,rfl,(by show (0:Int)<6;decide),_,_,_,.int st,rfl,rfl,SqL.of Zb,hst1,?_⟩;have f3:=f.trans (Fr.new (o:=.lst ([1,2,3,7,0,t].map V.int)) s2 hq3);have w3:=(w0.up f3.grow).up f3.same;refine Yo (Zn (Yv (Za (pv 4) (Za (Zp ZZ (Zr hu (pv 2) Zl (λ_ _=>rfl)) (pv 5)) (Za (pv 7) (Za (ZC Ye (YN (Za Zl (Za Zl (Za Zl Ze)))) (Zp ZT (Zp ZI (pv 3) Zg) Zg) (λ_ _=>rfl)) Ze)))))) ?_;refine⟨_,rfl,_,rfl,_,_,rfl,w3.gNow,_,rfl,_,_,rfl,rfl,_,rfl,(by show 3<=sizeLine;decide),λq4 hq4=>?_⟩;refine⟨_,rfl,_,_,rfl,rfl,⟨by decide,by decide⟩,_,_,rfl,rfl,(by show (0:Int)<3;decide),_,_,_,.str nm,rfl,rfl,SqL.of Zb,hn1,(by show 4<=sizeLine;decide),λtd htd=>?_⟩;refine kk _ _ td (.set (v.now+t) (some st) nm) ((f3.trans (Fr.new f3.same hq4)).trans (Fr.new (ZV f3.same _ _) htd)) Zb ⟨XM (by omega) (by omega),λs z=>?_,okS hn2⟩;cases z;exact⟨by omega,XM (by omega) (by omega)⟩
    ·refine Yo (Zn (Yv (Za (pv 4) (Za (Zp ZZ (Zr hu (pv 2) Zl (λ_ _=>rfl)) (pv 5)) (Za (pv 7) (Za (ZC Ye (YN (Za Zl (Za Zl (Za Zl Ze)))) (Zp ZT (Zp ZI (pv 3) Zg) Zg) (λ_ _=>rfl)) Ze)))))) ?_;refine⟨_,rfl,_,rfl,_,_,rfl,w2.gNow,_,rfl,_,_,rfl,rfl,_,rfl,(by show 3<=sizeLine;decide),λq4 hq4=>?_⟩;refine⟨_,rfl,_,_,rfl,rfl,⟨by decide,by decide⟩,_,_,rfl,rfl,(by show (0:Int)<3;decide),_,_,_,.str nm,rfl,rfl,SqL.of Zb,hn1,(by show 4<=sizeLine;decide),λtd htd=>?_⟩;exact kk _ _ td (.set (v.now+t) none nm) ((f.trans (Fr.new s2 hq4)).trans (Fr.new (ZV s2 _ _) htd)) Zb ⟨XM (by omega) (by omega),(λs z=>by cases z),okS hn2⟩
   ·refine Zk (ZG (Zq XF (pv 4) Zl (Zz _)) Yh Zv) ?_;refine⟨_,rfl,rfl,_,rfl,?_⟩;rw[decide_eq_false (YY hs)];refine iteF ?_;have hM:(0:Int)<if v.next+1>1 then v.next+1 else 1:=by split<;>omega
    have hM2:(if v.next+1>1 then v.next+1 else 1)<=25:=by split<;>omega
    refine Zk (Zw (i:=8) sc__law_deed.nd rfl (Or.inl rfl) (Zp Vy (Zp ZT (Zp ZI (pv 3) Zg) (ZF (call_max2 rfl) (by rfl) T.b_max boot_max (Za Zg (Za (Zp ZZ (Zr hu (pv 2) Zl (λ_ _=>rfl)) Zg) Ze)))) (Zp ZI (Zp ZT (Zp ZI (pv 3) Zg) Zg) Zg))) ?_;refine⟨_,rfl,_,_,rfl,rfl,⟨by decide,by decide⟩,_,rfl,_,_,rfl,w2.gMany,_,_,rfl,rfl,_,_,rfl,_,_,rfl,rfl,hM,_,rfl,_,_,rfl,rfl,⟨by decide,by decide⟩,_,_,rfl,rfl,(by show (0:Int)<40;decide),_,_,rfl,rfl,⟨by decide,by decide⟩,_,_,rfl,rfl,?_⟩;have b1:=Int.emod_nonneg (m/11) (Int.ne_of_gt hM);have b2:=Int.emod_lt_of_pos (m/11) hM;generalize (if v.next+1>1 then v.next+1 else 1)=M at hM hM2 b1 b2;generalize m/11 % M=x1 at b1 b2;refine Yo (Zn (Yv (Za (pv 4) (Za (pv 8) (Za (Zp Vy (Zp ZZ (Zr hu (pv 2) Zl (λ_ _=>rfl)) (pv 5)) (Zp ZI (Zp ZT (Zp ZI (pv 3) Zg) Zg) Zg)) (Za Zl Ze)))))) ?_;refine⟨_,rfl,_,rfl,_,rfl,_,_,rfl,w2.gNow,_,rfl,_,_,rfl,rfl,_,rfl,_,_,rfl,rfl,⟨by decide,by decide⟩,_,_,rfl,rfl,(by show (0:Int)<3;decide),_,_,rfl,rfl,⟨by decide,by decide⟩,_,_,rfl,rfl,(by show 4<=sizeLine;decide),λtd htd=>?_⟩;have lk:Lg (x1-m/3000 % 40/39):=XM (by omega) (by omega);have ld:Lg (v.now+t-m/9000 % 3/2):=XM (by omega) (by omega);have fz:=f.trans (Fr.new (o:=.tup [.str wd,.int (x1-m/3000 % 40/39),.int (v.now+t-m/9000 % 3/2),.str ""]) s2 htd);simp only[List.mem_cons,List.not_mem_nil,or_false] at hw2;rcases hw2 with h|h|h|h|h|h|h|h|h|h|h
    ·exact absurd h hs
    ·exact absurd h hs
    ·exact absurd h hs
    ·exact absurd h hp
    ·exact absurd h hp
    ·subst h;exact kk _ _ td (.move _ _) fz Zb ⟨lk,ld⟩
    ·subst h;exact kk _ _ td (.back _ _) fz Zb lk
    ·subst h;exact kk _ _ td (.rest _ _) fz Zb lk
    ·subst h;exact kk _ _ td (.on _ _) fz Zb lk
    ·exact absurd h hs
    ·subst h;exact kk _ _ td (.on _ _) fz Zb lk
noncomputable def Sa:Deed->Str
 | .set _ _ _=>"set"
 | .pass _=>"pass"
 | .move _ _=>"move"
 | .back _ _=>"back"
 | .rest _ _=>"rest"
 | .on _ _=>"on"
theorem deed0(d:Deed):atI (Vk d) 0=some (.str (Sa d)):=by cases d<;>rfl
theorem idx0:∀m:Nat,m<0->([true,false,false]:List Bool)[m]?=some false:=λm hm=>absurd hm (Nat.not_lt_zero m)
theorem idx1:∀m:Nat,m<1->([false,true,false]:List Bool)[m]?=some false:=λm hm=>by
 have e:m=0:=by omega
 rw[e];rfl
theorem tTry_by{K:W.Frag}{Tc:Addr}{j:Nat}{tb:TSx}{ts:TS}{D:Ends}{σ:St}{H:Hp}(h:∀E:XS,(∀σ' cls H',(∃C,cls= .ref C/\W.subIn K (.ref C) (.ref Tc)=some true/\∀ea,H' ea=none->ts {nx:=λσ2 H2=>D.nx (σ2.set j none) H2,rt:=λ_ _=>False} (σ'.set j (some (.ref ea))) (upd H' ea (excO ea (.ref C))))->E σ' cls H')->tb D E σ H):tTry K Tc j tb ts D σ H:=h _ (λ_ _ _ z=>z)
def spDone:Sp:=λvs H Q _=>∃(H0:Hp) (q dw dr:Addr) (v:Vw) (j:Nat) (d:Deed) (td:Addr),vs=[.ref q,.ref td]/\Same H0 H/\Wld H0 q dw dr v/\LOk j v/\RW v d/\H0 td=some (.tup (Vk d))/\DoneAt q dw dr H0 H v d Q
theorem QW:FnScope ["_law_world","_law_deed_here"] ["_law_world","_law_deed_here"] (Zd Xy):=Zu
set_option maxHeartbeats 4000000 in
theorem Pp(T:Txt K mg a):FnOk P w K mg base (CXe P w) 3 a.f__law_done a.fd__law_done ["_law_world","_law_deed_here"] spDone:=by
 have G__law_set:=ok__law_set (P:=P) (w:=w) (base:=base) T;have G__law_pass:=Pn (P:=P) (w:=w) (base:=base) T;have G__law_move:=Po (P:=P) (w:=w) (base:=base) T;have G__law_back:=Ps (P:=P) (w:=w) (base:=base) T;have G__law_rest:=Pm (P:=P) (w:=w) (base:=base) T;have G__law_on:=ok__law_on (P:=P) (w:=w) (base:=base) T;refine T.F__law_done.okN QW (λvs H Q E h=>?_) (λcdv A' outer s H vs Q E hr h=>?_)
 ·obtain⟨H0,q,dw,dr,v,j,d,td,rfl,_⟩:=h;rfl
 ·obtain⟨H0,q,dw,dr,v,j,d,td,rfl,s0,wl,lo,dk,ht0,kk⟩:=h;have ht:=s0 _ _ ht0;have h0:=deed0 d;refine⟨_,Yh,?_⟩;refine Zk (ZG (Zq XF (ZC ZE (pv 1) Zg (λ_ _=>rfl)) Zl (Zz _)) (Zf (Zn (ZA G__law_set (hr.mono (by decide)) (by rfl) T.f__law_set T.kp__law_set T.B__law_set .nil ZB (Za (pv 0) (Za (ZC ZE (pv 1) Zg (λ_ _=>rfl)) (Za (ZC ZE (pv 1) Zg (λ_ _=>rfl)) (Za (ZC ZE (pv 1) Zg (λ_ _=>rfl)) Ze))))))) Zv) ?_;refine⟨_,rfl,_,_,_,_,rfl,rfl,SqT.of ht,h0,rfl,_,rfl,ite2 (λc=>?_) (λc0=>?_)⟩
  ·have e:=V.str.inj (of_decide_eq_true c);cases d with
   |set due step name=>
    replace ht:H td=some (.tup (Vk (.set due step name))):=ht;exact⟨_,rfl,_,rfl,_,_,_,_,rfl,rfl,SqT.of ht,rfl,_,rfl,_,_,_,_,rfl,rfl,SqT.of ht,rfl,_,rfl,_,_,_,_,rfl,rfl,SqT.of ht,rfl,H0,q,dw,dr,v,j,_,_,rfl,⟨due,step,name,rfl,rfl⟩,s0,wl,lo,dk,kk⟩
   |_=>exact absurd e (by simp only[Sa];decide+kernel)
  refine Zk (ZG (Zq XF (ZC ZE (pv 1) Zg (λ_ _=>rfl)) Zl (Zz _)) (Zf (Zn (ZA G__law_pass (hr.mono (by decide)) (by rfl) T.f__law_pass T.kp__law_pass T.B__law_pass .nil ZB (Za (pv 0) (Za (ZC ZE (pv 1) Zg (λ_ _=>rfl)) Ze))))) Zv) ?_;refine⟨_,rfl,_,_,_,_,rfl,rfl,SqT.of ht,h0,rfl,_,rfl,ite2 (λc=>?_) (λc1=>?_)⟩
  ·have e:=V.str.inj (of_decide_eq_true c);cases d with
   |pass t=>
    replace ht:H td=some (.tup (Vk (.pass t))):=ht;exact⟨_,rfl,_,rfl,_,_,_,_,rfl,rfl,SqT.of ht,rfl,H0,q,dw,dr,v,j,_,_,rfl,⟨t,rfl,rfl⟩,s0,wl,lo,dk,kk⟩
   |_=>exact absurd e (by simp only[Sa];decide+kernel)
  refine Zk (ZG (Zq XF (ZC ZE (pv 1) Zg (λ_ _=>rfl)) Zl (Zz _)) (Zf (Zn (ZA G__law_move (hr.mono (by decide)) (by rfl) T.f__law_move T.kp__law_move T.B__law_move .nil ZB (Za (pv 0) (Za (ZC ZE (pv 1) Zg (λ_ _=>rfl)) (Za (ZC ZE (pv 1) Zg (λ_ _=>rfl)) Ze)))))) Zv) ?_;refine⟨_,rfl,_,_,_,_,rfl,rfl,SqT.of ht,h0,rfl,_,rfl,ite2 (λc=>?_) (λc2=>?_)⟩
  ·have e:=V.str.inj (of_decide_eq_true c);cases d with
   |move k due=>
    replace ht:H td=some (.tup (Vk (.move k due))):=ht;exact⟨_,rfl,_,rfl,_,_,_,_,rfl,rfl,SqT.of ht,rfl,_,rfl,_,_,_,_,rfl,rfl,SqT.of ht,rfl,H0,q,dw,dr,v,j,_,_,rfl,⟨k,due,rfl,rfl⟩,s0,wl,lo,dk,kk⟩
   |_=>exact absurd e (by simp only[Sa];decide+kernel)
  refine Zk (ZG (Zq XF (ZC ZE (pv 1) Zg (λ_ _=>rfl)) Zl (Zz _)) (Zf (Zn (ZA G__law_back (hr.mono (by decide)) (by rfl) T.f__law_back T.kp__law_back T.B__law_back .nil ZB (Za (pv 0) (Za (ZC ZE (pv 1) Zg (λ_ _=>rfl)) Ze))))) Zv) ?_;refine⟨_,rfl,_,_,_,_,rfl,rfl,SqT.of ht,h0,rfl,_,rfl,ite2 (λc=>?_) (λc3=>?_)⟩
  ·have e:=V.str.inj (of_decide_eq_true c);cases d with
   |back k due=>
    replace ht:H td=some (.tup (Vk (.back k due))):=ht;exact⟨_,rfl,_,rfl,_,_,_,_,rfl,rfl,SqT.of ht,rfl,H0,q,dw,dr,v,j,_,_,rfl,⟨k,due,rfl,rfl⟩,s0,wl,lo,dk,kk⟩
   |_=>exact absurd e (by simp only[Sa];decide+kernel)
  refine Zk (ZG (Zq XF (ZC ZE (pv 1) Zg (λ_ _=>rfl)) Zl (Zz _)) (Zf (Zn (ZA G__law_rest (hr.mono (by decide)) (by rfl) T.f__law_rest T.kp__law_rest T.B__law_rest .nil ZB (Za (pv 0) (Za (ZC ZE (pv 1) Zg (λ_ _=>rfl)) Ze))))) Zv) ?_;refine⟨_,rfl,_,_,_,_,rfl,rfl,SqT.of ht,h0,rfl,_,rfl,ite2 (λc=>?_) (λc4=>?_)⟩
  ·have e:=V.str.inj (of_decide_eq_true c);cases d with
   |rest k due=>
    replace ht:H td=some (.tup (Vk (.rest k due))):=ht;exact⟨_,rfl,_,rfl,_,_,_,_,rfl,rfl,SqT.of ht,rfl,H0,q,dw,dr,v,j,_,_,rfl,⟨k,due,rfl,rfl⟩,s0,wl,lo,dk,kk⟩
   |_=>exact absurd e (by simp only[Sa];decide+kernel)
  cases d with
  |set due step name=>exact absurd (decide_eq_true rfl) c0
  |pass t=>exact absurd (decide_eq_true rfl) c1
  |move k due=>exact absurd (decide_eq_true rfl) c2
  |back k due=>exact absurd (decide_eq_true rfl) c3
  |rest k due=>exact absurd (decide_eq_true rfl) c4
  |on k due=>
   replace ht:H td=some (.tup (Vk (.on k due))):=ht;refine Yo (Zn (ZA G__law_on (hr.mono (by decide)) (by rfl) T.f__law_on T.kp__law_on T.B__law_on .nil ZB (Za (pv 0) (Za (ZC ZE (pv 1) Zg (λ_ _=>rfl)) Ze)))) ?_;exact⟨_,rfl,_,rfl,_,_,_,_,rfl,rfl,SqT.of ht,rfl,H0,q,dw,dr,v,j,_,_,rfl,⟨k,due,rfl,rfl⟩,s0,wl,lo,dk,kk⟩
def spAsked(c:Cl):Sp:=λvs H Q _=>∃(H0:Hp) (p:Addr) (v:Vw) (j:Nat) (d:Deed) (td:Addr),vs=[.ref p,.ref td]/\BookAt c H0 H p v/\LOk j v/\j<24/\RW v d/\H0 td=some (.tup (Vk d))/\
 ∀(H0' H':Hp) (r:Ret) (v':Vw) (x:V),Same H0 H0'->BookAt c H0' H' p v'->Does d v r v'->RetAt H0' r x->Q x H'
theorem sc__law_asked:FnScope ["_law_book","_law_deed_here","_law_kept","_law_found","e","_law_kinds"] ["_law_book","_law_deed_here"] (Zd Xh):=Zu
set_option maxHeartbeats 8000000 in
theorem Qe(T:Txt K mg a):FnOk P w K mg base (CXe P w) 9 a.f__law_asked a.fd__law_asked ["_law_book","_law_deed_here"] (spAsked (clOf a)):=by
 have G_set_alarm:=Pk (P:=P) (w:=w) (base:=base) T;have G_pass_ticks:=UZ (P:=P) (w:=w) (base:=base) T;have G_move:=ok_move (P:=P) (w:=w) (base:=base) T;have G_take_back:=Pj (P:=P) (w:=w) (base:=base) T;have G_rest:=ok_rest (P:=P) (w:=w) (base:=base) T;have G_go_on:=ok_go_on (P:=P) (w:=w) (base:=base) T;refine T.F__law_asked.okN sc__law_asked (λvs H Q E h=>?_) (λcdv A' outer s H vs Q E hr h=>?_)
 ·obtain⟨H0,p,v,j,d,td,rfl,_⟩:=h;rfl
 ·obtain⟨H0,p,v,j,d,td,rfl,b,lo,hj,dk,ht0,kk⟩:=h;have ht:=b.same _ _ ht0;have n2:=lo.next;refine⟨_,Yh,?_⟩;refine Zk (Zw (i:=2) sc__law_asked.nd rfl (Or.inl rfl) ZK) ?_;refine Zk (Zw (i:=3) sc__law_asked.nd rfl (Or.inl rfl) ZK) ?_;refine Zk (ps_try rfl rfl sc__law_asked.nd (j:=4) rfl rfl rfl T.c_TickError T.ct_TickError (YS (RB (Zq XF (ZC ZE (pv 1) Zg (λ_ _=>rfl)) Zl (Zz _)) (YS (UP (i:=3) sc__law_asked.nd rfl (Or.inl rfl) (Ud G_set_alarm (hr.mono (by decide)) (by rfl) T.f_set_alarm T.kp_set_alarm T.B_set_alarm .nil (Za (pv 0) (Za (ZC ZE (pv 1) Zg (λ_ _=>rfl)) (Za (ZC ZE (pv 1) Zg (λ_ _=>rfl)) (Za (ZC ZE (pv 1) Zg (λ_ _=>rfl)) Ze))))))) (YS (RB (Zq XF (ZC ZE (pv 1) Zg (λ_ _=>rfl)) Zl (Zz _)) (YS (UP (i:=3) sc__law_asked.nd rfl (Or.inl rfl) (Ud G_pass_ticks (hr.mono (by decide)) (by rfl) T.f_pass_ticks T.kp_pass_ticks T.B_pass_ticks .nil (Za (pv 0) (Za (ZC ZE (pv 1) Zg (λ_ _=>rfl)) Ze))))) (YS (RB (Zq XF (ZC ZE (pv 1) Zg (λ_ _=>rfl)) Zl (Zz _)) (YS (UP (i:=3) sc__law_asked.nd rfl (Or.inl rfl) (Ud G_move (hr.mono (by decide)) (by rfl) T.f_move T.kp_move T.B_move .nil (Za (pv 0) (Za (ZC ZE (pv 1) Zg (λ_ _=>rfl)) (Za (ZC ZE (pv 1) Zg (λ_ _=>rfl)) Ze)))))) (YS (RB (Zq XF (ZC ZE (pv 1) Zg (λ_ _=>rfl)) Zl (Zz _)) (YS (UP (i:=3) sc__law_asked.nd rfl (Or.inl rfl) (Ud G_take_back (hr.mono (by decide)) (by rfl) T.f_take_back T.kp_take_back T.B_take_back .nil (Za (pv 0) (Za (ZC ZE (pv 1) Zg (λ_ _=>rfl)) Ze))))) (YS (RB (Zq XF (ZC ZE (pv 1) Zg (λ_ _=>rfl)) Zl (Zz _)) (YS (UP (i:=3) sc__law_asked.nd rfl (Or.inl rfl) (Ud G_rest (hr.mono (by decide)) (by rfl) T.f_rest T.kp_rest T.B_rest .nil (Za (pv 0) (Za (ZC ZE (pv 1) Zg (λ_ _=>rfl)) Ze))))) (YS (UP (i:=3) sc__law_asked.nd rfl (Or.inl rfl) (Ud G_go_on (hr.mono (by decide)) (by rfl) T.f_go_on T.kp_go_on T.B_go_on .nil (Za (pv 0) (Za (ZC ZE (pv 1) Zg (λ_ _=>rfl)) Ze))))))))))))))) (λ_=>(Zf (Zw (i:=2) sc__law_asked.nd rfl (Or.inl rfl) (pv 4))))) ?_;refine tTry_by λE' hE=>?_;have IFN:=True.intro;have excPast:Does d v (.str "past") v->E' [some (.ref p),some (.ref td),some .non,some .non,none,none] (.ref a.C_Past) H:=λdd=>by
   refine hE _ _ _ ⟨a.C_Past,rfl,T.sb_Past_TickError,λea hea=>?_⟩;have be:=b.up (Same.upd (o:=excO ea (.ref a.C_Past)) hea);refine⟨_,rfl,?_⟩;refine Zk (ZG (Zq XJ (pv 2) ZK (Zz _)) (Zf (Zn (pv 3))) Zv) ?_;refine⟨_,rfl,rfl,_,rfl,iteF ?_⟩;refine Zk (Zw (i:=5) sc__law_asked.nd rfl (Or.inl rfl) (YN (Za (ZF Xk (by rfl) T.b_isinstance boot_isinstance (Za (pv 2) (Za (Uh T.c_Past) Ze))) (Za (ZF Xk (by rfl) T.b_isinstance boot_isinstance (Za (pv 2) (Za (Uh T.c_NotThere) Ze))) (Za (ZF Xk (by rfl) T.b_isinstance boot_isinstance (Za (pv 2) (Za (Uh T.c_BadWheels) Ze))) Ze))))) ?_;refine⟨_,rfl,_,_,_,_,_,rfl,Zb,T.ec_Past,rfl,T.kt_Past_Past,_,rfl,_,_,_,_,_,rfl,Zb,T.ec_Past,rfl,T.kt_Past_NotThere,_,rfl,_,_,_,_,_,rfl,Zb,T.ec_Past,rfl,T.kt_Past_BadWheels,(by show 3<=sizeLine;decide),λlk hlk=>?_⟩;have hne:ea≠lk:=λz=>by rw[←z,Zb] at hlk;cases hlk
   have be2:=be.up (Same.upd (o:=.lst [.bl true,.bl false,.bl false]) hlk);refine Zk (ZG (UY (Zq op_ne (VW F.plainAttrs_list F.slot_list_count F.type_list_count Qv (pv 5) (Za VI Ze)) Zg (Zz _)) (Ue (VO (Yf (ZF Xk (by rfl) T.b_isinstance boot_isinstance (Za (pv 2) (Za (Ti T.b_ValueError boot_VE) Ze))) (λ_=>rfl))))).pt (Zf (Zn Zl)) Zv) ?_;refine⟨_,rfl,.inl ⟨rfl,_,SqL.of Zb⟩,lk,[true,false,false],rfl,rfl,SqL.of Zb,rfl,_,rfl,iteNS (by decide) ?_⟩;refine⟨_,rfl,_,_,_,_,_,rfl,(by rw[Zc hne];exact Zb),T.ec_Past,rfl,T.kv_Past,_,rfl,iteF ?_⟩;refine Yo (Zn (ZC Ye (YN (Za Zl (Za Zl (Za Zl Ze)))) (VW F.plainAttrs_list F.slot_list_index F.type_list_index Qt (pv 5) (Za VI Ze)) (λ_ _=>rfl))) ?_;refine⟨(by show 3<=sizeLine;decide),λl2 hl2=>?_⟩;have hn2:lk≠l2:=λz=>by rw[←z,Zb] at hl2;cases hl2
   have hk2:SqL K (upd (upd (upd H ea (excO ea (.ref a.C_Past))) lk (.lst [.bl true,.bl false,.bl false])) l2 (.lst [.str "past",.str "there",.str "wheels"])) lk ([true,false,false].map V.bl):=SqL.of (by rw[Zc hn2];exact Zb);refine⟨_,rfl,.inl ⟨rfl,_,hk2⟩,lk,[true,false,false],0,rfl,rfl,hk2,(by decide),rfl,(by exact idx0),_,_,_,.str "past",rfl,rfl,SqL.of Zb,rfl,?_⟩;exact kk H0 _ _ v _ (Same.refl _) (be2.up (Same.upd hl2)) dd rfl
  have excNotThere:Does d v (.str "there") v->E' [some (.ref p),some (.ref td),some .non,some .non,none,none] (.ref a.C_NotThere) H:=λdd=>by
   refine hE _ _ _ ⟨a.C_NotThere,rfl,T.sb_NotThere_TickError,λea hea=>?_⟩;have be:=b.up (Same.upd (o:=excO ea (.ref a.C_NotThere)) hea);refine⟨_,rfl,?_⟩;refine Zk (ZG (Zq XJ (pv 2) ZK (Zz _)) (Zf (Zn (pv 3))) Zv) ?_;refine⟨_,rfl,rfl,_,rfl,iteF ?_⟩;refine Zk (Zw (i:=5) sc__law_asked.nd rfl (Or.inl rfl) (YN (Za (ZF Xk (by rfl) T.b_isinstance boot_isinstance (Za (pv 2) (Za (Uh T.c_Past) Ze))) (Za (ZF Xk (by rfl) T.b_isinstance boot_isinstance (Za (pv 2) (Za (Uh T.c_NotThere) Ze))) (Za (ZF Xk (by rfl) T.b_isinstance boot_isinstance (Za (pv 2) (Za (Uh T.c_BadWheels) Ze))) Ze))))) ?_;refine⟨_,rfl,_,_,_,_,_,rfl,Zb,T.ec_NotThere,rfl,T.kt_NotThere_Past,_,rfl,_,_,_,_,_,rfl,Zb,T.ec_NotThere,rfl,T.kt_NotThere_NotThere,_,rfl,_,_,_,_,_,rfl,Zb,T.ec_NotThere,rfl,T.kt_NotThere_BadWheels,(by show 3<=sizeLine;decide),λlk hlk=>?_⟩;have hne:ea≠lk:=λz=>by rw[←z,Zb] at hlk;cases hlk
   have be2:=be.up (Same.upd (o:=.lst [.bl false,.bl true,.bl false]) hlk);refine Zk (ZG (UY (Zq op_ne (VW F.plainAttrs_list F.slot_list_count F.type_list_count Qv (pv 5) (Za VI Ze)) Zg (Zz _)) (Ue (VO (Yf (ZF Xk (by rfl) T.b_isinstance boot_isinstance (Za (pv 2) (Za (Ti T.b_ValueError boot_VE) Ze))) (λ_=>rfl))))).pt (Zf (Zn Zl)) Zv) ?_;refine⟨_,rfl,.inl ⟨rfl,_,SqL.of Zb⟩,lk,[false,true,false],rfl,rfl,SqL.of Zb,rfl,_,rfl,iteNS (by decide) ?_⟩;refine⟨_,rfl,_,_,_,_,_,rfl,(by rw[Zc hne];exact Zb),T.ec_NotThere,rfl,T.kv_NotThere,_,rfl,iteF ?_⟩;refine Yo (Zn (ZC Ye (YN (Za Zl (Za Zl (Za Zl Ze)))) (VW F.plainAttrs_list F.slot_list_index F.type_list_index Qt (pv 5) (Za VI Ze)) (λ_ _=>rfl))) ?_;refine⟨(by show 3<=sizeLine;decide),λl2 hl2=>?_⟩;have hn2:lk≠l2:=λz=>by rw[←z,Zb] at hl2;cases hl2
   have hk2:SqL K (upd (upd (upd H ea (excO ea (.ref a.C_NotThere))) lk (.lst [.bl false,.bl true,.bl false])) l2 (.lst [.str "past",.str "there",.str "wheels"])) lk ([false,true,false].map V.bl):=SqL.of (by rw[Zc hn2];exact Zb);refine⟨_,rfl,.inl ⟨rfl,_,hk2⟩,lk,[false,true,false],1,rfl,rfl,hk2,(by decide),rfl,(by exact idx1),_,_,_,.str "there",rfl,rfl,SqL.of Zb,rfl,?_⟩;exact kk H0 _ _ v _ (Same.refl _) (be2.up (Same.upd hl2)) dd rfl
  cases d with
  |set due step name=>
   replace ht:H td=some (.tup (Vk (.set due step name))):=ht;refine⟨_,rfl,_,_,_,_,rfl,rfl,SqT.of ht,rfl,rfl,_,rfl,?_⟩;rw[decide_eq_true rfl];refine iteT ?_;refine⟨_,rfl,_,rfl,_,_,_,_,rfl,rfl,SqT.of ht,rfl,_,rfl,_,_,_,_,rfl,rfl,SqT.of ht,rfl,_,rfl,_,_,_,_,rfl,rfl,SqT.of ht,rfl,H0,p,v,name,due,step,rfl,b,dk.1,(λs e=>(dk.2.1 s e).2),(by omega),(λc=>excPast (.setNo c)),λh1 h2 H1 b1=>Zk (ZG (Zq XJ (pv 2) ZK (Zz _)) (Zf (Zn (pv 3))) Zv) ⟨_,rfl,rfl,_,rfl,iteT ⟨_,rfl,kk H0 H1 _ _ _ (Same.refl _) b1 (.setOk h1 h2) rfl⟩⟩⟩
  |pass t=>
   replace ht:H td=some (.tup (Vk (.pass t))):=ht;refine⟨_,rfl,_,_,_,_,rfl,rfl,SqT.of ht,rfl,rfl,_,rfl,?_⟩;rw[decide_eq_false (YY (by decide+kernel))];refine iteF ?_;refine⟨_,rfl,_,_,_,_,rfl,rfl,SqT.of ht,rfl,rfl,_,rfl,?_⟩;rw[decide_eq_true rfl];refine iteT ?_;refine⟨_,rfl,_,rfl,_,_,_,_,rfl,rfl,SqT.of ht,rfl,H0,p,v,t,rfl,b,dk.1,(λc=>excPast (.passNo c)),λh0=>⟨dk.2.2 h0,λH2 H1 lr rs g sS hl rr b1 run=>Zk (ZG (Zq XJ (pv 2) ZK (Zz _)) (Zf (Zn (pv 3))) Zv) ⟨_,rfl,rfl,_,rfl,iteT ⟨_,rfl,kk H1 H2 (.rings rs) _ _ sS b1 (.passOk h0 run) ⟨lr,rfl,rr⟩⟩⟩⟩⟩
  |move k due=>
   replace ht:H td=some (.tup (Vk (.move k due))):=ht;refine⟨_,rfl,_,_,_,_,rfl,rfl,SqT.of ht,rfl,rfl,_,rfl,?_⟩;rw[decide_eq_false (YY (by decide+kernel))];refine iteF ?_;refine⟨_,rfl,_,_,_,_,rfl,rfl,SqT.of ht,rfl,rfl,_,rfl,?_⟩;rw[decide_eq_false (YY (by decide+kernel))];refine iteF ?_;refine⟨_,rfl,_,_,_,_,rfl,rfl,SqT.of ht,rfl,rfl,_,rfl,?_⟩;rw[decide_eq_true rfl];refine iteT ?_;refine⟨_,rfl,_,rfl,_,_,_,_,rfl,rfl,SqT.of ht,rfl,_,rfl,_,_,_,_,rfl,rfl,SqT.of ht,rfl,H0,p,v,k,due,rfl,b,dk.1,dk.2,(λe=>excNotThere (.moveNo e)),(λal e c=>excPast (.moveNo2 e c)),λal e c H1 b1=>Zk (ZG (Zq XJ (pv 2) ZK (Zz _)) (Zf (Zn (pv 3))) Zv) ⟨_,rfl,rfl,_,rfl,iteT ⟨_,rfl,kk H0 H1 .non _ _ (Same.refl _) b1 (.moveOk e c) rfl⟩⟩⟩
  |back k due=>
   replace ht:H td=some (.tup (Vk (.back k due))):=ht;refine⟨_,rfl,_,_,_,_,rfl,rfl,SqT.of ht,rfl,rfl,_,rfl,?_⟩;rw[decide_eq_false (YY (by decide+kernel))];refine iteF ?_;refine⟨_,rfl,_,_,_,_,rfl,rfl,SqT.of ht,rfl,rfl,_,rfl,?_⟩;rw[decide_eq_false (YY (by decide+kernel))];refine iteF ?_;refine⟨_,rfl,_,_,_,_,rfl,rfl,SqT.of ht,rfl,rfl,_,rfl,?_⟩;rw[decide_eq_false (YY (by decide+kernel))];refine iteF ?_;refine⟨_,rfl,_,_,_,_,rfl,rfl,SqT.of ht,rfl,rfl,_,rfl,?_⟩;rw[decide_eq_true rfl];refine iteT ?_;refine⟨_,rfl,_,rfl,_,_,_,_,rfl,rfl,SqT.of ht,rfl,H0,p,v,k,rfl,b,dk,(λe1 e2=>excNotThere (.backNo e1 e2)),(λal e H1 b1=>Zk (ZG (Zq XJ (pv 2) ZK (Zz _)) (Zf (Zn (pv 3))) Zv) ⟨_,rfl,rfl,_,rfl,iteT ⟨_,rfl,kk H0 H1 (.str al.name) _ _ (Same.refl _) b1 (.backW e) rfl⟩⟩),λal e1 e2 H1 b1=>Zk (ZG (Zq XJ (pv 2) ZK (Zz _)) (Zf (Zn (pv 3))) Zv) ⟨_,rfl,rfl,_,rfl,iteT ⟨_,rfl,kk H0 H1 (.str al.name) _ _ (Same.refl _) b1 (.backR e1 e2) rfl⟩⟩⟩
  |rest k due=>
   replace ht:H td=some (.tup (Vk (.rest k due))):=ht;refine⟨_,rfl,_,_,_,_,rfl,rfl,SqT.of ht,rfl,rfl,_,rfl,?_⟩;rw[decide_eq_false (YY (by decide+kernel))];refine iteF ?_;refine⟨_,rfl,_,_,_,_,rfl,rfl,SqT.of ht,rfl,rfl,_,rfl,?_⟩;rw[decide_eq_false (YY (by decide+kernel))];refine iteF ?_;refine⟨_,rfl,_,_,_,_,rfl,rfl,SqT.of ht,rfl,rfl,_,rfl,?_⟩;rw[decide_eq_false (YY (by decide+kernel))];refine iteF ?_;refine⟨_,rfl,_,_,_,_,rfl,rfl,SqT.of ht,rfl,rfl,_,rfl,?_⟩;rw[decide_eq_false (YY (by decide+kernel))];refine iteF ?_;refine⟨_,rfl,_,_,_,_,rfl,rfl,SqT.of ht,rfl,rfl,_,rfl,?_⟩;rw[decide_eq_true rfl];refine iteT ?_;refine⟨_,rfl,_,rfl,_,_,_,_,rfl,rfl,SqT.of ht,rfl,H0,p,v,k,rfl,b,dk,(λe=>excNotThere (.restNo e)),λal e H1 b1=>Zk (ZG (Zq XJ (pv 2) ZK (Zz _)) (Zf (Zn (pv 3))) Zv) ⟨_,rfl,rfl,_,rfl,iteT ⟨_,rfl,kk H0 H1 .non _ _ (Same.refl _) b1 (.restOk e) rfl⟩⟩⟩
  |on k due=>
   replace ht:H td=some (.tup (Vk (.on k due))):=ht;refine⟨_,rfl,_,_,_,_,rfl,rfl,SqT.of ht,rfl,rfl,_,rfl,?_⟩;rw[decide_eq_false (YY (by decide+kernel))];refine iteF ?_;refine⟨_,rfl,_,_,_,_,rfl,rfl,SqT.of ht,rfl,rfl,_,rfl,?_⟩;rw[decide_eq_false (YY (by decide+kernel))];refine iteF ?_;refine⟨_,rfl,_,_,_,_,rfl,rfl,SqT.of ht,rfl,rfl,_,rfl,?_⟩;rw[decide_eq_false (YY (by decide+kernel))];refine iteF ?_;refine⟨_,rfl,_,_,_,_,rfl,rfl,SqT.of ht,rfl,rfl,_,rfl,?_⟩;rw[decide_eq_false (YY (by decide+kernel))];refine iteF ?_;refine⟨_,rfl,_,_,_,_,rfl,rfl,SqT.of ht,rfl,rfl,_,rfl,?_⟩;rw[decide_eq_false (YY (by decide+kernel))];refine iteF ?_;refine⟨_,rfl,_,rfl,_,_,_,_,rfl,rfl,SqT.of ht,rfl,H0,p,v,k,rfl,b,dk,(λe=>excNotThere (.onNo e)),λal e H1 b1=>Zk (ZG (Zq XJ (pv 2) ZK (Zz _)) (Zf (Zn (pv 3))) Zv) ⟨_,rfl,rfl,_,rfl,iteT ⟨_,rfl,kk H0 H1 .non _ _ (Same.refl _) b1 (.onOk e) rfl⟩⟩⟩
def spIs(K:W.Frag):Sp:=λvs H Q _=>∃(x y:V) (d:PyData) (tx ty:Value),vs=[x,y]/\TyOf K H x tx/\TyOf K H y ty/\W.kitOne K tx (.type "bool")=some false/\W.kitOne K tx (.type "tuple")=some false/\W.kitOne K ty (.type "tuple")=some false/\Den K H x d/\Den K H y d/\SeqAt.shaped d=true/\Q (.bl true) H
theorem sc__law_is:FnScope ["_law_found","_law_due"] ["_law_found","_law_due"] (Zd Vq):=Zu
theorem RF(T:Txt K mg a):FnOk P w K mg base (CXe P w) 1 a.f__law_is a.fd__law_is ["_law_found","_law_due"] (spIs K):=by
 refine T.F__law_is.okN sc__law_is (λvs H Q E h=>?_) (λcdv A' outer s H vs Q E hr h=>?_)
 ·obtain⟨x,y,d,tx,ty,rfl,_⟩:=h;rfl
 ·obtain⟨x,y,d,tx,ty,rfl,h1,h2,k1,k2,k3,d1,d2,sh,kk⟩:=h;refine⟨_,(Zh (ZG (UY (Yf (ZF UI (by rfl) T.b_isinstance boot_isinstance (Za (pv 0) (Za (Ti T.b_bool PyProof.Rows.boot_bool) Ze))) (λ_=>rfl)) (Ue (Zq op_ne (ZF UI (by rfl) T.b_isinstance boot_isinstance (Za (pv 0) (Za (Ti T.b_tuple PyProof.Rows.boot_tuple) Ze))) (ZF UI (by rfl) T.b_isinstance boot_isinstance (Za (pv 1) (Za (Ti T.b_tuple PyProof.Rows.boot_tuple) Ze))) (Zz _)))).pt (Zf (Zn VI)) Zv)
   (Zf (Zn (SZ (op_eqD hr.units) (pv 0) (pv 1) (Zz _))))),?_⟩
  refine⟨_,rfl,_,_,_,_,_,rfl,h1,rfl,k1,_,rfl,iteF ?_⟩;refine⟨_,rfl,_,_,_,_,_,rfl,h1,rfl,k2,_,rfl,_,_,_,_,_,rfl,h2,rfl,k3,rfl,_,rfl,iteNS rfl ?_⟩;refine⟨_,rfl,_,rfl,d,d,d1,d2,sh,sh,?_⟩;rw[TW sh];exact kk
theorem RetAt.ty(T:Txt K mg a){H:Hp}{r:Ret}{x:V}(h:RetAt H r x):∃t,TyOf K H x t/\W.kitOne K t (.type "bool")=some false/\W.kitOne K t (.type "tuple")=some false:=by
 cases r with
 |int i=>cases h;exact⟨_,.int i,T.ty_int_bool,T.ty_int_tuple⟩
 |str y=>cases h;exact⟨_,.str y,T.ty_str_bool,T.ty_str_tuple⟩
 |non=>cases h;exact⟨_,.non,T.ty_NoneType_bool,T.ty_NoneType_tuple⟩
 |rings rs=>
  obtain⟨l,rfl,qs,_,h1,_⟩:=h;exact⟨_,.lst h1,T.ty_list_bool,T.ty_list_tuple⟩
theorem shI(i:Int):SeqAt.shaped (.int i)=true:=by simp[SeqAt.shaped,PyData.canLay0,PyData.depth]
theorem shNo:SeqAt.shaped .none=true:=by simp[SeqAt.shaped,PyData.canLay0,PyData.depth]
theorem Qj(t:TabA):tabV t=(t.map λp=>(p.1,V.ref p.2.1)).map λp=>(Sum.inl p.1,p.2):=by
 unfold tabV;exact Tm (λ(x:Addr×Al Str)=>V.ref x.1) t
theorem nums_tab{f:Fn Str}{t:TabA}{out out2:List Int}(nd:(keys t).Nodup)(e:fnT t=f)(h:NumsOf f out)(hp:out2.Perm ((t.map λp=>(p.1,V.ref p.2.1)).map (·.1)))(hs:out2.Pairwise (·<=·)):out=out2:=by
 have ek:(t.map λp=>(p.1,V.ref p.2.1)).map (·.1)=keys t:=by rw[List.map_map];rfl
 rw[ek] at hp;obtain⟨h1,h2⟩:=Vc hp hs nd;refine srt_eq h.1 h1 λx=>?_;rw[h.2 x,h2 x,Sr,←e];show ((get t x).map (·.2)).isSome=true↔_;cases get t x<;>simp
abbrev teDue(K:W.Frag):TE:=tOp (rIxT K) (tVar 0) (tC (.int 1))
theorem dues_comp{σ:St}{q dw dr:Addr}{tw tr:TabA}{v:Vw}{j:Nat}{H0 H:Hp}{o:Obj}{Q:VK}(s0:Same H0 H)(w0:WAt H0 q dw dr tw tr v)(lo:LOk j v)
 (hd:∀acc H',H acc=none->H'=upd H acc (.lst ((tw.map λp=>p.2.2.tick).map V.int))->acc≠dw->Q (.ref acc) (upd H' dw (.frz o (.dK (tabV tw))))):
  VN (Itv dw o (tabV tw)) [none] 0 (λ_ H Q=>Q true H) (teDue K) σ (upd H dw (.frz o (.dK (tabV tw)))) Q:=by
 have w1:=w0.up s0;have lz:=(w0.lens lo).1;refine Sv (λi ys Hi=>Hi=upd H dw (.frz o (.dK (tabV tw)))/\ys=((tw.take i).map λp=>p.2.2.tick).map V.int) ⟨rfl,rfl⟩ ?_ ?_ ?_
 ·rintro i ys Hi hi ⟨rfl,rfl⟩;refine⟨Zb,?_⟩;rw[List.length_map,List.length_map,List.length_take];have:(1001:Nat)<=sizeLine:=by decide
  omega
 ·rintro i k y ys Hi N hk ⟨rfl,rfl⟩ kq;obtain⟨n,x,al,hi,rfl,rfl,hg,hw,hx⟩:=w1.atW hk;have hx':upd H dw (.frz o (.dK (tabV tw))) x=some (.tup (alV al)):=by rw[Zc (λz=>by rw[z,w1.wts] at hx;cases hx)];exact hx
  refine iteT ⟨_,rfl,_,_,_,_,rfl,rfl,SqT.of hx',rfl,kq _ _ ⟨rfl,?_⟩⟩;rw[List.take_add_one,hi,List.map_append,List.map_append];rfl
 ·rintro ys Hi ⟨rfl,rfl⟩ acc hacc;have hpd:dw≠acc:=λz=>by rw[←z,Zb] at hacc;cases hacc
  have hp':H acc=none:=by rw[Zc hpd.symm] at hacc;exact hacc
  rw[Ur hpd,UC,List.take_length];exact hd acc _ hp' rfl hpd.symm
def spSame(c:Cl):Sp:=λvs H Q _=>∃(H0:Hp) (p q dw dr:Addr) (v:Vw) (j:Nat),vs=[.ref p,.ref q]/\BookAt c H0 H p v/\Wld H0 q dw dr v/\LOk j v/\∀H0' H',Same H0 H0'->BookAt c H0' H' p v->Q (.bl true) H'
theorem sc__law_same:FnScope ["_law_book","_law_world","_law_number","_law_dues"] ["_law_book","_law_world"] (Zd Xu):=Zu
set_option maxHeartbeats 8000000 in
theorem Pl(T:Txt K mg a):FnOk P w K mg base (CXe P w) 4 a.f__law_same a.fd__law_same ["_law_book","_law_world"] (spSame (clOf a)):=by
 have G__law_is:=RF (P:=P) (w:=w) (base:=base) T;have G_Book_soonest:=Up (P:=P) (w:=w) (base:=base) T;have G_Book_time:=TD (P:=P) (w:=w) (base:=base) T;have G_Book_waiting:=Uo (P:=P) (w:=w) (base:=base) T;have G_Book_resting:=ST (P:=P) (w:=w) (base:=base) T;have G_Book_due:=VL (P:=P) (w:=w) (base:=base) T;have G_Book_left:=TH (P:=P) (w:=w) (base:=base) T;refine T.F__law_same.okN sc__law_same (λvs H Q E h=>?_) (λcdv A' outer s H vs Q E hr h=>?_)
 ·obtain⟨H0,p,q,dw,dr,v,j,rfl,_⟩:=h;rfl
 ·obtain⟨H0,p,q,dw,dr,v,j,rfl,b,⟨tw,tr,w0⟩,lo,kk⟩:=h;have hu:=YK hr;have n2:=lo.next;have n3:=lo.j24;have lns:=w0.lens lo;refine⟨_,Yh,?_⟩;have w1:=w0.up b.same;obtain⟨dx0,r0,x0,y0,u1,u2,u3,u4,hob⟩:=b.ob;refine Zk (ZG (VO (Yf (ZA G__law_is (hr.mono (by decide)) (by rfl) T.f__law_is T.kp__law_is T.B__law_is .nil ZB (Za (Yu (pv 0) T.cl_Book T.m_Book_time G_Book_time (hr.mono (by decide)) T.B_Book_time .nil ZB) (Za (Zr hu (pv 1) Zl (λ_ _=>rfl)) Ze))) (λ_=>rfl))) (Zf (Zn VI)) Zv) ?_;refine⟨_,rfl,_,_,_,rfl,hob,rfl,H0,p,v,rfl,b,_,rfl,_,_,rfl,w1.gNow,_,_,_,_,_,rfl,.int _,.int _,T.ty_int_bool,T.ty_int_tuple,T.ty_int_tuple,.int _,.int _,shI _,_,rfl,iteF ?_⟩;refine Zk (ZG (UY (Zq (op_neD hr.units) (Yu (pv 0) T.cl_Book T.m_Book_waiting G_Book_waiting (hr.mono (by decide)) T.B_Book_waiting .nil ZB) (ZF (Xj rfl) (by rfl) T.b_sorted boot_sorted (Za (Zr hu (pv 1) Zl (λ_ _=>rfl)) Ze)) (Zz _)) (Ue (Zq (op_neD hr.units) (Yu (pv 0) T.cl_Book T.m_Book_resting G_Book_resting (hr.mono (by decide)) T.B_Book_resting .nil ZB) (ZF (Xj rfl) (by rfl) T.b_sorted boot_sorted (Za (Zr hu (pv 1) Zl (λ_ _=>rfl)) Ze)) (Zz _)))).pt (Zf (Zn VI)) Zv) ?_;refine⟨_,rfl,_,_,_,rfl,hob,rfl,H0,p,v,rfl,b,λH1 l1 out1 hl1 b1 hN1=>?_⟩;have w01:=w0.up (Same.upd (o:=.lst (out1.map V.int)) hl1);have w11:=w01.up b1.same;refine⟨_,rfl,_,_,rfl,w11.gWaits,dw,_,rfl,(by rw[←Qj];exact w11.wts),(by rw[List.length_map];omega),λout2 hp2 hs2 l2 hl2=>?_⟩;obtain rfl:=nums_tab w0.ndw w0.ew hN1 hp2 hs2;refine⟨_,_,TN (ns:=out1) (Same.upd hl2 _ _ (b1.same _ _ Zb)),TN (ns:=out1) Zb,Xr _,Xr _,_,rfl,?_⟩;rw[show PyData.eqv (.list (out1.map PyData.int)) (.list (out1.map PyData.int))=true from TW (Xr _)];refine iteF ?_;have b2:=(b1.weak (Same.upd (o:=.lst (out1.map V.int)) hl1)).up (Same.upd (o:=.lst (out1.map V.int)) hl2);obtain⟨dx2,r2,x2,y2,v1,v2,v3,v4,hob2⟩:=b2.ob;refine⟨_,rfl,_,_,_,rfl,hob2,rfl,H0,p,v,rfl,b2,λH3 l3 out3 hl3 b3 hN3=>?_⟩;have w03:=w0.up (Same.upd (o:=.lst (out3.map V.int)) hl3);have w13:=w03.up b3.same;refine⟨_,rfl,_,_,rfl,w13.gRests,dr,_,rfl,(by rw[←Qj];exact w13.rts),(by rw[List.length_map];omega),λout4 hp4 hs4 l4 hl4=>?_⟩;obtain rfl:=nums_tab w0.ndr w0.er hN3 hp4 hs4;refine⟨_,_,TN (ns:=out3) (Same.upd hl4 _ _ (b3.same _ _ Zb)),TN (ns:=out3) Zb,Xr _,Xr _,_,rfl,?_⟩;rw[show PyData.eqv (.list (out3.map PyData.int)) (.list (out3.map PyData.int))=true from TW (Xr _)];refine iteF ?_;have b4:=(b3.weak (Same.upd (o:=.lst (out3.map V.int)) hl3)).up (Same.upd (o:=.lst (out3.map V.int)) hl4);generalize upd H3 l4 (.lst (out3.map V.int))=H4 at b4;clear b1 b2 b3 hob hob2 w11 w13 hl1 hl2 hl3 hl4;have w4:=w0.up b4.same;refine Zk (UQ (Vx PassesOwn.never rfl (Tz (Zr hu (pv 1) Zl (λ_ _=>rfl))) (Yi (i:=2) sc__law_same.nd rfl (Or.inl rfl)) (Zf (ZG (VO (Yf (ZA G__law_is (hr.mono (by decide)) (by rfl) T.f__law_is T.kp__law_is T.B__law_is .nil ZB (Za (Yx (pv 0) T.cl_Book T.m_Book_due G_Book_due (hr.mono (by decide)) T.B_Book_due .nil ZB (Za (pv 2) Ze)) (Za (ZC ZE (Zr hu (Zr hu (pv 1) Zl (λ_ _=>rfl)) (pv 2) (λ_ _=>rfl)) Zg (λ_ _=>rfl)) Ze))) (λ_=>rfl))) (Zf (Zn VI)) Zv)))) ?_;refine⟨_,rfl,_,_,rfl,w4.gWaits,dw,_,rfl,w4.wts,λo nf=>?_⟩;refine for_dict (λi σ Hi=>Hi=upd H4 dw (.frz o (.dK (tabV tw)))/\∃x,σ=[some (.ref p),some (.ref q),x,none]) ⟨rfl,_,rfl⟩ (λi σ Hi _ hh=>by rw[hh.1];exact Zb) ?_ ?_
  ·rintro i k y σ Hi hk ⟨rfl,x,rfl⟩;obtain⟨n,x,al,hi,rfl,rfl,hg,hw,hx⟩:=w4.atW hk;have bf:=b4.out (x:=dw) (o:=.frz o (.dK (tabV tw))) (.inr ⟨_,w0.wts⟩);obtain⟨dx5,r5,x5,y5,z1,z2,z3,z4,hob5⟩:=bf.ob;have hq:upd H4 dw (.frz o (.dK (tabV tw))) q=some (.dK (wdV v dw dr)):=by rw[Zc w4.n1];exact w4.top
   have gq:DGet (upd H4 dw (.frz o (.dK (tabV tw)))) q (.str "waits") (some (.ref dw)):=Rl (v:=v) (dw:=dw) (dr:=dr)▸DGet.k (k:=Sum.inr "waits") hq;have gk:DGet (upd H4 dw (.frz o (.dK (tabV tw)))) dw (.int n) (some (.ref x)):=.inl ⟨tabV tw,Sum.inl n,.inr ⟨o,Zb⟩,rfl,(w4.vW hg).symm⟩;have hx':upd H4 dw (.frz o (.dK (tabV tw))) x=some (.tup (alV al)):=by rw[Zc (λz=>by rw[z,w4.wts] at hx;cases hx)];exact hx
   have dm:=(lo.wait n al hw).1;refine⟨_,rfl,_,_,_,rfl,hob5,rfl,_,rfl,_,p,v,n,rfl,bf,XM (by omega) (by omega),(λz=>by rw[hw] at z;cases z),λal' hal=>?_⟩;rw[hw] at hal;cases hal;exact⟨_,rfl,_,_,rfl,gq,_,rfl,_,_,rfl,gk,_,_,_,_,rfl,rfl,SqT.of hx',rfl,_,_,_,_,_,rfl,.int _,.int _,T.ty_int_bool,T.ty_int_tuple,T.ty_int_tuple,.int _,.int _,shI _,_,rfl,iteF ⟨rfl,_,rfl⟩⟩
  rintro σ Hi ⟨rfl,xdw,rfl⟩;refine⟨dw,o,_,nf,Zb,?_⟩;rw[Sx w4.wts];clear nf o;refine Zk (UQ (Vx PassesOwn.never rfl (Tz (Zr hu (pv 1) Zl (λ_ _=>rfl))) (Yi (i:=2) sc__law_same.nd rfl (Or.inl rfl)) (Zf (ZG (VO (Yf (ZA G__law_is (hr.mono (by decide)) (by rfl) T.f__law_is T.kp__law_is T.B__law_is .nil ZB (Za (Yx (pv 0) T.cl_Book T.m_Book_left G_Book_left (hr.mono (by decide)) T.B_Book_left .nil ZB (Za (pv 2) Ze)) (Za (ZC ZE (Zr hu (Zr hu (pv 1) Zl (λ_ _=>rfl)) (pv 2) (λ_ _=>rfl)) Zg (λ_ _=>rfl)) Ze))) (λ_=>rfl))) (Zf (Zn VI)) Zv)))) ?_;refine⟨_,rfl,_,_,rfl,w4.gRests,dr,_,rfl,w4.rts,λo nf=>?_⟩;refine for_dict (λi σ Hi=>Hi=upd H4 dr (.frz o (.dK (tabV tr)))/\∃x,σ=[some (.ref p),some (.ref q),x,none]) ⟨rfl,_,rfl⟩ (λi σ Hi _ hh=>by rw[hh.1];exact Zb) ?_ ?_
  ·rintro i k y σ Hi hk ⟨rfl,x,rfl⟩;obtain⟨n,x,al,hi,rfl,rfl,hg,hw,hx⟩:=w4.atR hk;have bf:=b4.out (x:=dr) (o:=.frz o (.dK (tabV tr))) (.inr ⟨_,w0.rts⟩);obtain⟨dx5,r5,x5,y5,z1,z2,z3,z4,hob5⟩:=bf.ob;have hq:upd H4 dr (.frz o (.dK (tabV tr))) q=some (.dK (wdV v dw dr)):=by rw[Zc w4.n2];exact w4.top
   have gq:DGet (upd H4 dr (.frz o (.dK (tabV tr)))) q (.str "rests") (some (.ref dr)):=wd_rests (v:=v) (dw:=dw) (dr:=dr)▸DGet.k (k:=Sum.inr "rests") hq;have gk:DGet (upd H4 dr (.frz o (.dK (tabV tr)))) dr (.int n) (some (.ref x)):=.inl ⟨tabV tr,Sum.inl n,.inr ⟨o,Zb⟩,rfl,(w4.vR hg).symm⟩;have hx':upd H4 dr (.frz o (.dK (tabV tr))) x=some (.tup (alV al)):=by rw[Zc (λz=>by rw[z,w4.rts] at hx;cases hx)];exact hx
   have dm:=(lo.rest n al hw).1;refine⟨_,rfl,_,_,_,rfl,hob5,rfl,_,rfl,_,p,v,n,rfl,bf,XM (by omega) (by omega),(λz=>by rw[hw] at z;cases z),λal' hal=>?_⟩;rw[hw] at hal;cases hal;exact⟨_,rfl,_,_,rfl,gq,_,rfl,_,_,rfl,gk,_,_,_,_,rfl,rfl,SqT.of hx',rfl,_,_,_,_,_,rfl,.int _,.int _,T.ty_int_bool,T.ty_int_tuple,T.ty_int_tuple,.int _,.int _,shI _,_,rfl,iteF ⟨rfl,_,rfl⟩⟩
  rintro σ Hi ⟨rfl,xdr,rfl⟩;refine⟨dr,o,_,nf,Zb,?_⟩;rw[Sx w4.rts];clear nf o;refine Zk (UQ (VE (te:=teDue K) (NB:=["_law_one"]) (fv:=[none]) (jx:=0) rfl (Va rfl rfl (by decide+kernel)) (Pf (pe_bm0 F.plainAttrs_dict F.slot_dict_values F.type_dict_values Py (Zr hu (pv 1) Zl (λ_ _=>rfl)))) rfl rfl rfl (λ_ _ _=>VU) (λ_ _ _=>(ZC ZE (pv 0) Zg (λ_ _=>rfl))) sc__law_same.nd (iy:=3) rfl (Or.inl rfl) rfl)) ?_;refine⟨_,rfl,_,_,rfl,w4.gWaits,.inr (.inr (.inl ⟨rfl,.inl ⟨_,w4.wts⟩⟩)),dw,_,rfl,rfl,w4.wts,λvv hvv=>?_⟩;have b5:=b4.out (x:=vv) (o:=VC vv dw) (.inl hvv);have w05:=w0.up (Same.upd (o:=VC vv dw) (b4.same.free hvv));have w5:=w05.up b5.same;refine⟨vv,dw,_,rfl,Zb,w5.wts,λo nf=>?_⟩;refine dues_comp b5.same w05 lo λacc H' hacc e hne=>?_;refine⟨dw,o,_,nf,Zb,?_⟩;have b6:=b5.out (x:=acc) (o:=.lst ((tw.map λp=>p.2.2.tick).map V.int)) (.inl hacc);have w06:=w05.up (Same.upd (o:=.lst ((tw.map λp=>p.2.2.tick).map V.int)) (b5.same.free hacc));rw[←e] at b6;rw[Sx (w06.up b6.same).wts];have ha0:upd (upd H0 vv (VC vv dw)) acc (.lst ((tw.map λp=>p.2.2.tick).map V.int)) acc=some (.lst ((tw.map λp=>p.2.2.tick).map V.int)):=Zb;have s6:Same H0 (upd (upd H0 vv (VC vv dw)) acc (.lst ((tw.map λp=>p.2.2.tick).map V.int))):=(Same.upd (b4.same.free hvv)).trans (Same.upd (b5.same.free hacc));generalize upd (upd H0 vv (VC vv dw)) acc (.lst ((tw.map λp=>p.2.2.tick).map V.int))=H06 at *;obtain⟨dx7,r7,x7,y7,t1,t2,t3,t4,hob7⟩:=b6.ob;refine Yo (Zn (ZA G__law_is (hr.mono (by decide)) (by rfl) T.f__law_is T.kp__law_is T.B__law_is .nil ZB (Za (Yu (pv 0) T.cl_Book T.m_Book_soonest G_Book_soonest (hr.mono (by decide)) T.B_Book_soonest .nil ZB) (Za (pe_ifExp (Yf (pv 3) (λ_=>rfl)) (ZF (call_minI rfl) (by rfl) T.b_min boot_min (Za (pv 3) Ze)) ZK) Ze)))) ?_;refine⟨_,rfl,_,_,_,rfl,hob7,rfl,H06,p,v,rfl,b6,λH7 b7=>⟨λhno=>?_,λm k al e1 e2 hmin=>?_⟩⟩
  ·have et:tw=[]:=by
    cases tw with
    |nil=>rfl
    |cons y t=>
     have:=hno y.1;rw[←w0.ew] at this;have h2:(get (y::t) y.1).map (·.2)=none:=this;rw[Yb,if_pos rfl] at h2;cases h2
   subst et;refine⟨_,rfl,false,.inl ⟨_,SqL.of (b7.same _ _ ha0),rfl⟩,iteF ?_⟩;exact⟨_,_,_,_,_,rfl,.non,.non,T.ty_NoneType_bool,T.ty_NoneType_tuple,T.ty_NoneType_tuple,.non,.non,shNo,kk H06 H7 s6 b7⟩
  ·obtain⟨x,hx,_⟩:=w0.getW e1;have hmem:=YQ hx;have hmm:m∈tw.map λp=>p.2.2.tick:=List.mem_map.mpr ⟨_,hmem,e2⟩;have hle:∀y∈tw.map λp=>p.2.2.tick,m<=y:=λy hy=>by
    obtain⟨p',hp',rfl⟩:=List.mem_map.mp hy;obtain⟨n',x',al'⟩:=p';have hg:=VA w0.ndw hp';exact hmin n' al' (by rw[←w0.ew];show (get tw n').map (·.2)=_;rw[hg];rfl)
   have hne:(tw.map λp=>p.2.2.tick)≠[]:=λz=>by rw[z] at hmm;cases hmm
   refine⟨_,rfl,true,.inl ⟨_,SqL.of (b7.same _ _ ha0),by cases tw with |nil=>exact absurd rfl hne|cons y t=>rfl⟩,iteT ?_⟩;refine⟨_,rfl,acc,_,rfl,SqL.of (b7.same _ _ ha0),hne,λm' h1 h2=>?_⟩;have em:m'=m:=Int.le_antisymm (h2 m hmm) (hle m' h1);subst em;exact⟨_,_,_,_,_,rfl,.int _,.int _,T.ty_int_bool,T.ty_int_tuple,T.ty_int_tuple,.int _,.int _,shI _,kk H06 H7 s6 b7⟩
end Tk
end
section
namespace So
open PySem PyProof.Rows
section
variable {prog:Program}{w:World}{A:Around}{E:Value->Shared->Prop}{s:Shared}{rk:Keyed->Int}{U:Keyed->Prop}{knd:SortKind}
def Cmp(prog:Program)(w:World)(A:Around)(E:Value->Shared->Prop)(s:Shared)(rk:Keyed->Int)(U:Keyed->Prop)(knd:SortKind):Prop:=
 ∀(x y:Keyed) (st:SortSt) (Q:Option Bool->SortSt->Prop),U x->U y->kindOf st=knd->Q (some (decide (rk x<rk y))) st->wpS (model prog w) A E s (lt' x y) Q st
noncomputable def R(rk:Keyed->Int)(xs:Array Keyed)(i:Nat):Int:=match xs[i]? with
 |some p=>rk p
 |none=>0
def Seg(rk:Keyed->Int)(xs:Array Keyed)(i j:Nat):Prop:=∀p q,i<=p->p<=q->q<j->R rk xs p<=R rk xs q
structure Ok(rk:Keyed->Int)(U:Keyed->Prop)(knd:SortKind)(xs0:Array Keyed)(st:SortSt):Prop where
 kind:kindOf st=knd
 failed:failedOf st=none
 perm:(arrOf st).Perm xs0
structure Base(rk:Keyed->Int)(U:Keyed->Prop)(xs0:Array Keyed):Prop where
 all:∀x,x∈xs0->U x
 dis:(xs0.toList.map rk).Nodup
variable {xs0:Array Keyed}
theorem Ok.size{st:SortSt}(o:Ok rk U knd xs0 st):(arrOf st).size=xs0.size:=o.perm.size_eq
theorem Ok.at{st:SortSt}(b:Base rk U xs0)(o:Ok rk U knd xs0 st){i:Nat}(hi:i<xs0.size):∃x,(arrOf st)[i]?=some x/\U x/\R rk (arrOf st) i=rk x:=by
 have h:i<(arrOf st).size:=by rw[o.size];exact hi
 refine⟨(arrOf st)[i],by simp[h],b.all _ (o.perm.mem_iff.mp (Array.getElem_mem h)),?_⟩;unfold R;rw[show (arrOf st)[i]?=some (arrOf st)[i] by simp[h]]
theorem Ok.ne{st:SortSt}(b:Base rk U xs0)(o:Ok rk U knd xs0 st){i j:Nat}(hi:i<xs0.size)(hj:j<xs0.size)(h:R rk (arrOf st) i=R rk (arrOf st) j):i=j:=by
 have hs:=o.size;have nd:((arrOf st).toList.map rk).Nodup:=(o.perm.toList.map rk).nodup_iff.mpr b.dis;have a1:((arrOf st).toList.map rk)[i]?=some (R rk (arrOf st) i):=by
  obtain⟨x,h1,_,h2⟩:=o.at b hi;rw[List.getElem?_map,Array.getElem?_toList,h1,h2];rfl
 have a2:((arrOf st).toList.map rk)[j]?=some (R rk (arrOf st) j):=by
  obtain⟨x,h1,_,h2⟩:=o.at b hj;rw[List.getElem?_map,Array.getElem?_toList,h1,h2];rfl
 rw[h] at a1;exact(List.getElem?_inj (List.getElem?_eq_some_iff.mp a1).1 nd).mp (a1.trans a2.symm)
theorem UK(c:Cmp prog w A E s rk U knd)(b:Base rk U xs0){st:SortSt}(o:Ok rk U knd xs0 st){i j:Nat}{Q:Option Bool->SortSt->Prop}(hi:i<xs0.size)(hj:j<xs0.size)(h:Q (some (decide (R rk (arrOf st) i<R rk (arrOf st) j))) st):
  wpS (model prog w) A E s (ltAt' i j) Q st:=by
 obtain⟨x,h1,h2,h3⟩:=o.at b hi;obtain⟨y,g1,g2,g3⟩:=o.at b hj;rw[ltAt'_eq];refine wpS_bind (wpS_get ?_);dsimp only;rw[elem'_eq,elem'_eq,h1,g1];refine wpS_bind (wpS_pure (wpS_bind (wpS_pure (c x y st Q h2 g2 o.kind ?_))));rw[←h3,←g3];exact h
theorem R_mirror{xs:Array Keyed}{i j:Nat}(hj:j<=xs.size)(k:Nat):R rk (mirror xs i j ((j-i)/2)) k=if i<=k/\k<j then R rk xs (i+j-1-k) else R rk xs k:=by
 have e:=getElem?_mirror_all (i:=i) hj k;unfold R;rw[e];by_cases h:i<=k/\k<j
 ·rw[if_pos h,if_pos h]
 ·rw[if_neg h,if_neg h]
theorem Seg.one{xs:Array Keyed}{i:Nat}:Seg rk xs i (i+1):=λp q h1 h2 h3=>by
 have e:p=q:=by omega
 rw[e];exact Int.le_refl _
def Out(i j:Nat)(xs ys:Array Keyed):Prop:=∀k,k<i\/j<=k->ys[k]?=xs[k]?
theorem Out.R{i j k:Nat}{xs ys:Array Keyed}(o:Out i j xs ys)(h:k<i\/j<=k):R rk ys k=R rk xs k:=by unfold So.R;rw[o k h]
theorem wpS_run(c:Cmp prog w A E s rk U knd)(b:Base rk U xs0){st:SortSt}(o:Ok rk U knd xs0 st){lo nrem:Nat}{Q:Option Nat->SortSt->Prop}(h1:1<=nrem)(hz:lo+nrem<=xs0.size)
 (h:∀m ys,1<=m->m<=nrem->ys.Perm (arrOf st)->Seg rk ys lo (lo+m)->Out lo (lo+m) (arrOf st) ys->Q (some m) (setArr st ys)):wpS (model prog w) A E s (countRun' lo nrem) Q st:=by
 rw[countRun'_eq];refine wpS_bind (wpS_mono (wpS_forRange (I:=λi c st'=>st'=st/\c=(none,i)/\Seg rk (arrOf st) lo (lo+i)) (Q:=λc st'=>st'=st/\∃n,c=(none,n)/\1<=n/\n<=nrem/\Seg rk (arrOf st) lo (lo+n)/\(n<nrem->R rk (arrOf st) (lo+n)<R rk (arrOf st) (lo+n-1))) ?s1 ?e1 ⟨rfl,rfl,Seg.one⟩) ?p1)
 case e1=>
  rintro x st' ⟨rfl,rfl,hs⟩;have e:max 1 nrem=nrem:=by omega
  rw[e] at hs ⊢;exact⟨rfl,nrem,rfl,h1,Nat.le_refl _,hs,λz=>by omega⟩
 case s1=>
  rintro i x st' hi1 hi2 ⟨rfl,rfl,hs⟩;refine wpS_bind (UK c b o (by omega) (by omega) ?_);dsimp only;by_cases hc:R rk (arrOf st') (lo+i)<R rk (arrOf st') (lo+i-1)
  ·rw[decide_eq_true hc,if_pos rfl];exact wpS_pure ⟨rfl,i,rfl,hi1,by omega,hs,λ_=>hc⟩
  ·rw[decide_eq_false hc,if_neg (by simp)];refine wpS_pure ⟨rfl,rfl,λp q hp hpq hq=>?_⟩;by_cases e:q=lo+i
   ·by_cases e2:p=q
    ·rw[e2];exact Int.le_refl _
    ·have:=hs p (lo+i-1) hp (by omega) (by omega);rw[e];omega
   ·exact hs p q hp hpq (by omega)
 case p1=>
  rintro x st' ⟨rfl,n,rfl,n1,n2,hs,hd⟩;dsimp only;have same:∀m,1<=m->m<=nrem->Seg rk (arrOf st') lo (lo+m)->Q (some m) st':=λm m1 m2 hm=>h m (arrOf st') m1 m2 (Array.Perm.refl _) hm λk _=>rfl;by_cases hn:n=nrem
  ·rw[if_pos (by simpa using hn)];exact wpS_pure (same n n1 n2 hs)
  rw[if_neg (by simpa using hn)];by_cases hn1:n>1
  ·rw[if_pos hn1];refine wpS_bind (UK c b o (by omega) (by omega) ?_);have rose:R rk (arrOf st') lo<R rk (arrOf st') (lo+n-1):=by
    have h2:=hs lo (lo+n-1) (Nat.le_refl _) (by omega) (by omega);have h3:R rk (arrOf st') lo≠R rk (arrOf st') (lo+n-1):=λe=>by
     have:=o.ne b (i:=lo) (j:=lo+n-1) (by omega) (by omega) e;omega
    omega
   rw[decide_eq_true rose];dsimp only;rw[if_pos rfl];exact wpS_pure (same n n1 n2 hs)
  ·rw[if_neg hn1];have e1:n=1:=by omega
   subst e1;have hd1:=hd (by omega);refine wpS_bind (wpS_lift (wpAny_rule ⟨rfl,?_⟩));refine wpS_bind (wpS_mono (wpS_forRange (I:=λi c st2=>st2=st'/\c=(none,i,0)/\∀p q,lo<=p->p<=q->q<lo+i->R rk (arrOf st') q<=R rk (arrOf st') p) (Q:=λc st2=>st2=st'/\∃n,c=(none,n,0)/\2<=n/\n<=nrem/\∀p q,lo<=p->p<=q->q<lo+n->R rk (arrOf st') q<=R rk (arrOf st') p) ?s2 ?e2 ⟨rfl,rfl,λp q hp hpq hq=>?b2⟩) ?p2)
   case b2=>
    by_cases e:p=q
    ·rw[e];exact Int.le_refl _
    ·have ep:p=lo:=by omega
     have eq:q=lo+1:=by omega
     rw[ep,eq];have:lo+1-1=lo:=by omega
     rw[this] at hd1;omega
   case e2=>
    rintro x st2 ⟨rfl,rfl,hx⟩;have e:max (1+1) nrem=nrem:=by omega
    rw[e] at hx ⊢;exact⟨rfl,nrem,rfl,by omega,Nat.le_refl _,hx⟩
   case s2=>
    rintro i x st2 hi1 hi2 ⟨rfl,rfl,hx⟩;dsimp only;refine wpS_bind (UK c b o (by omega) (by omega) ?_);dsimp only;by_cases hc:R rk (arrOf st2) (lo+i)<R rk (arrOf st2) (lo+i-1)
    ·rw[decide_eq_true hc,if_pos rfl,if_neg (by simp)];refine wpS_pure ⟨rfl,rfl,λp q hp hpq hq=>?_⟩;by_cases e:q=lo+i
     ·by_cases e2:p=q
      ·rw[e2];exact Int.le_refl _
      ·have:=hx p (lo+i-1) hp (by omega) (by omega);rw[e];omega
     ·exact hx p q hp hpq (by omega)
    ·rw[decide_eq_false hc,if_neg (by simp)];have h3:R rk (arrOf st2) (lo+i)≠R rk (arrOf st2) (lo+i-1):=λe=>by
      have:=o.ne b (i:=lo+i) (j:=lo+i-1) (by omega) (by omega) e;omega
     refine wpS_bind (UK c b o (by omega) (by omega) ?_);dsimp only;rw[decide_eq_true (show R rk (arrOf st2) (lo+i-1)<R rk (arrOf st2) (lo+i) by omega),if_pos rfl];exact wpS_pure ⟨rfl,i,rfl,by omega,by omega,hx⟩
   case p2=>
    rintro x st2 ⟨rfl,n,rfl,m1,m2,hx⟩;dsimp only;rw[if_neg (by simp)];refine wpS_bind (wpS_reverse ?_);have hsz:lo+n<=(arrOf st2).size:=by rw[o.size];omega
    have mp:(mirror (arrOf st2) lo (lo+n) ((lo+n-lo)/2)).Perm (arrOf st2):=mirror_perm _ _ _ _;have om:Out lo (lo+n) (arrOf st2) (mirror (arrOf st2) lo (lo+n) ((lo+n-lo)/2)):=λk hk=>by rw[getElem?_mirror_all hsz k,if_neg (by omega)]
    have sg:Seg rk (mirror (arrOf st2) lo (lo+n) ((lo+n-lo)/2)) lo (lo+n):=λp q hp hpq hq=>by
     rw[R_mirror hsz,R_mirror hsz,if_pos ⟨hp,by omega⟩,if_pos ⟨by omega,hq⟩];exact hx _ _ (by omega) (by omega) (by omega)
    generalize mirror (arrOf st2) lo (lo+n) ((lo+n-lo)/2)=ys at mp om sg;have o2:Ok rk U knd xs0 (setArr st2 ys):=⟨o.kind,o.failed,mp.trans o.perm⟩;refine wpS_bind (wpS_mono (wpS_forRange (I:=λi c st3=>st3=setArr st2 ys/\c=(none,i)/\Seg rk ys lo (lo+i)) (Q:=λc st3=>st3=setArr st2 ys/\∃m,c=(none,m)/\n<=m/\m<=nrem/\Seg rk ys lo (lo+m)) ?s3 ?e3 ⟨rfl,rfl,sg⟩) ?p3)
    case e3=>
     rintro x st3 ⟨rfl,rfl,hy⟩;have e:max n nrem=nrem:=by omega
     rw[e] at hy ⊢;exact⟨rfl,nrem,rfl,m2,Nat.le_refl _,hy⟩
    case s3=>
     rintro i x st3 hi1 hi2 ⟨rfl,rfl,hy⟩;refine wpS_bind (UK c b o2 (by omega) (by omega) ?_);dsimp only;by_cases hc:R rk (arrOf (setArr st2 ys)) (lo+i)<R rk (arrOf (setArr st2 ys)) (lo+i-1)
     ·rw[decide_eq_true hc,if_pos rfl];exact wpS_pure ⟨rfl,i,rfl,hi1,by omega,hy⟩
     ·rw[decide_eq_false hc,if_neg (by simp)];refine wpS_pure ⟨rfl,rfl,λp q hp hpq hq=>?_⟩;by_cases e:q=lo+i
      ·by_cases e2:p=q
       ·rw[e2];exact Int.le_refl _
       ·have h5:=hy p (lo+i-1) hp (by omega) (by omega);have hc': ¬R rk ys (lo+i)<R rk ys (lo+i-1):=hc;rw[e];omega
      ·exact hy p q hp hpq (by omega)
    case p3=>
     rintro x st3 ⟨rfl,m,rfl,k1,k2,hy⟩;dsimp only;exact wpS_pure (h m ys (by omega) k2 mp hy λk hk=>om k (by omega))
end
end So
end
section
namespace So
open PySem PyProof.Rows
section
variable {prog:Program}{w:World}{A:Around}{E:Value->Shared->Prop}{s:Shared}{rk:Keyed->Int}{U:Keyed->Prop}{knd:SortKind}{xs0:Array Keyed}
theorem R_bubble{xs:Array Keyed}{src d:Nat}(hs:src<xs.size)(hd:d<=src)(k:Nat):R rk (bubble xs src d) k=if k=src-d then R rk xs src else if src-d<k/\k<=src then R rk xs (k-1) else R rk xs k:=by
 have e:=getElem?_bubble hs d hd k;unfold R;rw[e];by_cases h:k=src-d
 ·rw[if_pos h,if_pos h]
 ·rw[if_neg h,if_neg h];by_cases h2:src-d<k/\k<=src
  ·rw[if_pos h2,if_pos h2]
  ·rw[if_neg h2,if_neg h2]
theorem Ok.set{st:SortSt}{ys:Array Keyed}(o:Ok rk U knd xs0 st)(p:ys.Perm (arrOf st)):Ok rk U knd xs0 (setArr st ys):=⟨o.kind,o.failed,p.trans o.perm⟩
theorem wpS_bin(c:Cmp prog w A E s rk U knd)(b:Base rk U xs0){st:SortSt}(o:Ok rk U knd xs0 st){lo n ok:Nat}{Q:Bool->SortSt->Prop}(hz:lo+n<=xs0.size)(hok:ok<=n)(hs:Seg rk (arrOf st) lo (lo+ok))
 (h:∀ys,ys.Perm (arrOf st)->Seg rk ys lo (lo+n)->Out lo (lo+n) (arrOf st) ys->Q true (setArr st ys)):wpS (model prog w) A E s (binarySort' lo n ok) Q st:=by
 rw[binarySort'_eq];refine wpS_bind (wpS_mono (wpS_forRange (I:=λk x st'=>x=(none,())/\∃ys,st'=setArr st ys/\ys.Perm (arrOf st)/\Seg rk ys lo (lo+min k n)/\Out lo (lo+n) (arrOf st) ys) (Q:=λx st'=>x=(none,())/\∃ys,st'=setArr st ys/\ys.Perm (arrOf st)/\Seg rk ys lo (lo+n)/\Out lo (lo+n) (arrOf st) ys) ?st ?fi ⟨rfl,arrOf st,rfl,Array.Perm.refl _,?ini,λ_ _=>rfl⟩) ?po)
 case ini=>
  intro p q hp hpq hq;by_cases h0:ok=0
  ·have e:p=q:=by omega
   rw[e];exact Int.le_refl _
  ·exact hs p q hp hpq (by omega)
 case fi=>
  rintro x st' ⟨hx,ys,e,p,sg,ou⟩;refine⟨hx,ys,e,p,?_,ou⟩;rwa[show min (max (max ok 1) n) n=n by omega] at sg
 case po=>
  rintro x st' ⟨rfl,ys,rfl,p,sg,ou⟩;exact wpS_pure (h ys p sg ou)
 case st=>
  rintro k x st' hk1 hk2 ⟨rfl,ys,rfl,p,sg,ou⟩;rw[show min k n=k by omega] at sg;have o2:=o.set p;have hys:ys.size=xs0.size:=by rw[p.size_eq,o.size]
  refine wpS_bind (wpS_mono (wpS_forRange (I:=λi x st2=>st2=setArr st ys/\∃l r,x=(none,l,r)/\l<=r/\r<=k/\r-l<=k-i/\(∀i,i<l->R rk ys (lo+i)<=R rk ys (lo+k))/\∀i,r<=i->i<k->R rk ys (lo+k)<R rk ys (lo+i))
   (Q:=λx st2=>st2=setArr st ys/\∃l r,x=(none,l,r)/\l<=k/\(∀i,i<l->R rk ys (lo+i)<=R rk ys (lo+k))/\∀i,l<=i->i<k->R rk ys (lo+k)<R rk ys (lo+i)) ?is ?ie ⟨rfl,0,k,rfl,by omega,by omega,by omega,λi hi=>by omega,λi h1 h2=>by omega⟩) ?ip)
  case ie=>
   rintro x st2 ⟨rfl,l,r,rfl,h1,h2,h3,h4,h5⟩;have e:l=r:=by omega
   subst e;exact⟨rfl,l,l,rfl,h2,h4,h5⟩
  case is=>
   rintro i x st2 _ hi ⟨rfl,l,r,rfl,h1,h2,h3,h4,h5⟩;dsimp only;by_cases hg:l>=r
   ·rw[if_pos hg];have e:l=r:=by omega
    subst e;exact wpS_pure ⟨rfl,l,l,rfl,h2,h4,h5⟩
   ·rw[if_neg hg];refine wpS_bind (UK c b o2 (by omega) (by omega) ?_);by_cases hl:R rk ys (lo+k)<R rk ys (lo+(l+r)/2)
    ·rw[decide_eq_true (show R rk (arrOf (setArr st ys)) (lo+k)<R rk (arrOf (setArr st ys)) (lo+(l+r)/2) from hl)];refine wpS_pure ⟨rfl,l,(l+r)/2,rfl,by omega,by omega,by omega,h4,λi a1 a2=>?_⟩;have:=sg (lo+(l+r)/2) (lo+i) (by omega) (by omega) (by omega);omega
    ·rw[decide_eq_false (show ¬R rk (arrOf (setArr st ys)) (lo+k)<R rk (arrOf (setArr st ys)) (lo+(l+r)/2) from hl)];refine wpS_pure ⟨rfl,(l+r)/2+1,r,rfl,by omega,by omega,by omega,λi a1=>?_,h5⟩;have:=sg (lo+i) (lo+(l+r)/2) (by omega) (by omega) (by omega);omega
  case ip=>
   rintro x st2 ⟨rfl,l,r,rfl,hl,h4,h5⟩;dsimp only;rw[moveDown'_eq];have hk:lo+k<ys.size:=by omega
   have ed:lo+k-(lo+l)=k-l:=by omega
   refine wpS_bind (wpS_modify (wpS_pure ⟨rfl,bubble ys (lo+k) (lo+k-(lo+l)),rfl,(bubble_perm _ _ _).trans p,?_,λj hj=>?_⟩))
   ·rw[show min (k+1) n=k+1 by omega,ed];intro u v hu huv hv;rw[R_bubble hk (by omega),R_bubble hk (by omega)];have e1:lo+k-(k-l)=lo+l:=by omega
    rw[e1];have lows:∀z,lo<=z->z<lo+l->R rk ys z<=R rk ys (lo+k):=λz a1 a2=>by
     have:=h4 (z-lo) (by omega);rwa[show lo+(z-lo)=z by omega] at this
    have highs:∀z,lo+l<=z->z<lo+k->R rk ys (lo+k)<R rk ys z:=λz a1 a2=>by
     have:=h5 (z-lo) (by omega) (by omega);rwa[show lo+(z-lo)=z by omega] at this
    by_cases c1:u=lo+l
    ·rw[if_pos c1];by_cases c2:v=lo+l
     ·rw[if_pos c2];exact Int.le_refl _
     ·rw[if_neg c2,if_pos ⟨by omega,by omega⟩];have:=highs (v-1) (by omega) (by omega);omega
    ·rw[if_neg c1];by_cases c3:lo+l<u/\u<=lo+k
     ·rw[if_pos c3,if_neg (by omega),if_pos ⟨by omega,by omega⟩];exact sg _ _ (by omega) (by omega) (by omega)
     ·rw[if_neg c3];by_cases c2:v=lo+l
      ·rw[if_pos c2];exact lows u hu (by omega)
      ·rw[if_neg c2];by_cases c4:lo+l<v/\v<=lo+k
       ·rw[if_pos c4];exact sg _ _ hu (by omega) (by omega)
       ·rw[if_neg c4];exact sg _ _ hu huv (by omega)
   ·rw[getElem?_bubble hk _ (by omega),if_neg (by omega),if_neg (by omega)];exact ou j hj
end
end So
end
section
namespace So
open PySem PyProof.Rows
noncomputable def gal:Bool->Keyed->Array Keyed->Nat->Nat->Nat->StateT SortSt Sem (Option Nat):=sortPriv% PySem.Builtin.gallop
theorem gal_eq(lf:Bool)(ky:Keyed)(ar:Array Keyed)(bs nn ht:Nat):gal lf ky ar bs nn ht=(do
 let by_ (j:Nat):StateT SortSt Sem (Option Bool):=do
  let e←elem' ar (bs+j)
  if lf then lt' e ky else return (←lt' ky e).map (!·)
 let mut la:=0
 let mut of:=1
 let mut l:=0
 let mut h:=0
 let some rt←by_ ht|return none
 if rt then
  let mx:=nn-ht
  for _ in [0:nn] do
   if of>=mx then break
   let some mo←by_ (ht+of)|return none
   if !mo then break
   la:=of
   of:=2 * of+1
  l:=ht+la+1
  h:=ht+min of mx
 else
  let mx:=ht+1
  for _ in [0:nn] do
   if of>=mx then break
   let some fo←by_ (ht-of)|return none
   if fo then break
   la:=of
   of:=2 * of+1
  l:=ht+1-min of mx
  h:=ht-la
 for _ in [0:nn] do
  if l>=h then break
  let q:=l+(h-l)/2
  let some mo←by_ q|return none
  if mo then l:=q+1 else h:=q
 return some h):=rfl
section
variable {prog:Program}{w:World}{A:Around}{E:Value->Shared->Prop}{s:Shared}{rk:Keyed->Int}{U:Keyed->Prop}{knd:SortKind}{xs0:Array Keyed}
def Bey(rk:Keyed->Int)(lf:Bool)(ky:Keyed)(ar:Array Keyed)(bs j:Nat):Prop:=if lf=true then R rk ar (bs+j)<rk ky else ¬rk ky<R rk ar (bs+j)
instance (lf:Bool) (ky:Keyed) (ar:Array Keyed) (bs j:Nat):Decidable (Bey rk lf ky ar bs j):=by unfold Bey;exact inferInstance
theorem Bey.mono{lf:Bool}{ky:Keyed}{ar:Array Keyed}{bs n i j:Nat}(sg:Seg rk ar bs (bs+n))(hj:j<n)(hij:i<=j)(h:Bey rk lf ky ar bs j):Bey rk lf ky ar bs i:=by
 have:=sg (bs+i) (bs+j) (by omega) (by omega) (by omega);unfold Bey at *;cases lf
 ·simp only[Bool.false_eq_true,if_false] at h ⊢;omega
 ·simp only[if_true] at h ⊢;omega
theorem wpS_bey(c:Cmp prog w A E s rk U knd){st:SortSt}(hk:kindOf st=knd){lf:Bool}{ky:Keyed}{ar:Array Keyed}{bs j:Nat}{Q:Option Bool->SortSt->Prop}(uk:U ky)(hj:bs+j<ar.size)(ua:∀x,x∈ar->U x)(h:Q (some (decide (Bey rk lf ky ar bs j))) st):
  wpS (model prog w) A E s (do
   let e←elem' ar (bs+j)
   if lf then lt' e ky else return (←lt' ky e).map (!·)) Q st:=by
 have ea:ar[bs+j]?=some ar[bs+j]:=by simp[hj]
 have er:R rk ar (bs+j)=rk ar[bs+j]:=by unfold R;rw[ea]
 rw[elem'_eq,ea];refine wpS_bind (wpS_pure ?_);cases lf with
 |true=>
  rw[if_pos rfl];refine c _ _ st _ (ua _ (Array.getElem_mem hj)) uk hk ?_;rw[←er];have:decide (R rk ar (bs+j)<rk ky)=decide (Bey rk true ky ar bs j):=by unfold Bey;simp
  rw[this];exact h
 |false=>
  rw[if_neg (by simp)];refine wpS_bind (c _ _ st _ uk (ua _ (Array.getElem_mem hj)) hk (wpS_pure ?_));rw[←er];have:(some (decide (rk ky<R rk ar (bs+j)))).map (!·)=some (decide (Bey rk false ky ar bs j)):=by
   unfold Bey;simp only[Option.map_some,Bool.false_eq_true,if_false];by_cases hh:rk ky<R rk ar (bs+j)<;>simp[hh]
  rw[this];exact h
theorem UL(c:Cmp prog w A E s rk U knd){st:SortSt}(hk:kindOf st=knd){lf:Bool}{ky:Keyed}{ar:Array Keyed}{bs n ht:Nat}{Q:Option Nat->SortSt->Prop}(uk:U ky)(hz:bs+n<=ar.size)(ua:∀x,x∈ar->U x)(sg:Seg rk ar bs (bs+n))(hh:ht<n)
 (h:∀r,r<=n->(∀i,i<r->Bey rk lf ky ar bs i)->(∀i,r<=i->i<n-> ¬Bey rk lf ky ar bs i)->Q (some r) st):wpS (model prog w) A E s (gal lf ky ar bs n ht) Q st:=by
 rw[gal_eq];have at_:∀{j:Nat} {Q':Option Bool->SortSt->Prop},j<n->Q' (some (decide (Bey rk lf ky ar bs j))) st->wpS (model prog w) A E s (do
   let e←elem' ar (bs+j)
   if lf then lt' e ky else return (←lt' ky e).map (!·)) Q' st:=λhj q=>wpS_bey c hk uk (by omega) ua q
 dsimp only;refine wpS_bind (at_ hh ?_);by_cases hb:Bey rk lf ky ar bs ht
 ·rw[decide_eq_true hb];dsimp only;rw[if_pos rfl];refine wpS_bind (wpS_mono (wpS_forRange (I:=λi x st2=>st=st2/\∃la of,x=(none,la,of)/\i+1<=of/\la<of/\la<n-ht/\Bey rk lf ky ar bs (ht+la))
   (Q:=λx st2=>st=st2/\∃la of,x=(none,la,of)/\la<of/\la<n-ht/\Bey rk lf ky ar bs (ht+la)/\(of<n-ht-> ¬Bey rk lf ky ar bs (ht+of))) ?rs ?re ⟨rfl,0,1,rfl,by omega,by omega,by omega,hb⟩) ?rp)
  case re=>
   rintro x st2 ⟨rfl,la,of,rfl,a1,a2,a3,a4⟩;exact⟨rfl,la,of,rfl,a2,a3,a4,λz=>by omega⟩
  case rs=>
   rintro i x st2 _ hi ⟨rfl,la,of,rfl,a1,a2,a3,a4⟩;dsimp only;by_cases hg:of>=n-ht
   ·rw[if_pos hg];exact wpS_pure ⟨rfl,la,of,rfl,a2,a3,a4,λz=>by omega⟩
   ·rw[if_neg hg];refine wpS_bind (at_ (by omega) ?_);by_cases hm:Bey rk lf ky ar bs (ht+of)
    ·rw[decide_eq_true hm];exact wpS_pure ⟨rfl,of,2 * of+1,rfl,by omega,by omega,by omega,hm⟩
    ·rw[decide_eq_false hm];exact wpS_pure ⟨rfl,la,of,rfl,a2,a3,a4,λ_=>hm⟩
  rintro x st2 ⟨rfl,la,of,rfl,a2,a3,a4,a5⟩;dsimp only;have L1:ht+la+1<=ht+min of (n-ht):=by omega
  have L2:ht+min of (n-ht)<=n:=by omega
  have L3:∀i,i<ht+la+1->Bey rk lf ky ar bs i:=λi hi=>a4.mono sg (by omega) (by omega);have L4:∀i,ht+min of (n-ht)<=i->i<n-> ¬Bey rk lf ky ar bs i:=λi h1 h2 q=>by
   have hlt:of<n-ht:=by omega
   exact a5 hlt (q.mono sg h2 (by omega))
  refine wpS_bind (wpS_mono (wpS_forRange (I:=λi x st2=>st=st2/\∃l h,x=(none,l,h)/\l<=h/\h<=n/\h-l<=n-i/\(∀i,i<l->Bey rk lf ky ar bs i)/\∀i,h<=i->i<n-> ¬Bey rk lf ky ar bs i)
   (Q:=λx st2=>st=st2/\∃l,x=(none,l,l)/\l<=n/\(∀i,i<l->Bey rk lf ky ar bs i)/\∀i,l<=i->i<n-> ¬Bey rk lf ky ar bs i) ?ts ?te ⟨rfl,_,_,rfl,L1,L2,by omega,L3,L4⟩) ?tp)
  case te=>
   rintro x st2 ⟨rfl,l,h',rfl,a1,a2,a3,a4,a5⟩;have e:l=h':=by omega
   subst e;exact⟨rfl,l,rfl,a2,a4,a5⟩
  case tp=>
   rintro x st2 ⟨rfl,l,rfl,a2,a4,a5⟩;exact wpS_pure (h l a2 a4 a5)
  case ts=>
   rintro i x st2 _ hi ⟨rfl,l,h',rfl,a1,a2,a3,a4,a5⟩;dsimp only;by_cases hg:l>=h'
   ·rw[if_pos hg];have e:l=h':=by omega
    subst e;exact wpS_pure ⟨rfl,l,rfl,a2,a4,a5⟩
   ·rw[if_neg hg];refine wpS_bind (at_ (by omega) ?_);by_cases hm:Bey rk lf ky ar bs (l+(h'-l)/2)
    ·rw[decide_eq_true hm];refine wpS_pure ⟨rfl,_,h',rfl,by omega,a2,by omega,λj hj=>hm.mono sg (by omega) (by omega),a5⟩
    ·rw[decide_eq_false hm];refine wpS_pure ⟨rfl,l,_,rfl,by omega,by omega,by omega,a4,λj h1 h2 q=>hm (q.mono sg h2 h1)⟩
 ·rw[decide_eq_false hb];dsimp only;rw[if_neg (by simp)];refine wpS_bind (wpS_mono (wpS_forRange (I:=λi x st2=>st=st2/\∃la of,x=(none,la,of)/\i+1<=of/\la<of/\la<ht+1/\ ¬Bey rk lf ky ar bs (ht-la))
   (Q:=λx st2=>st=st2/\∃la of,x=(none,la,of)/\la<of/\la<ht+1/\ ¬Bey rk lf ky ar bs (ht-la)/\(of<ht+1->Bey rk lf ky ar bs (ht-of))) ?us ?ue ⟨rfl,0,1,rfl,by omega,by omega,by omega,hb⟩) ?up)
  case ue=>
   rintro x st2 ⟨rfl,la,of,rfl,a1,a2,a3,a4⟩;exact⟨rfl,la,of,rfl,a2,a3,a4,λz=>by omega⟩
  case us=>
   rintro i x st2 _ hi ⟨rfl,la,of,rfl,a1,a2,a3,a4⟩;dsimp only;by_cases hg:of>=ht+1
   ·rw[if_pos hg];exact wpS_pure ⟨rfl,la,of,rfl,a2,a3,a4,λz=>by omega⟩
   ·rw[if_neg hg];refine wpS_bind (at_ (by omega) ?_);by_cases hm:Bey rk lf ky ar bs (ht-of)
    ·rw[decide_eq_true hm];exact wpS_pure ⟨rfl,la,of,rfl,a2,a3,a4,λ_=>hm⟩
    ·rw[decide_eq_false hm];exact wpS_pure ⟨rfl,of,2 * of+1,rfl,by omega,by omega,by omega,hm⟩
  rintro x st2 ⟨rfl,la,of,rfl,a2,a3,a4,a5⟩;dsimp only;have L1:ht+1-min of (ht+1)<=ht-la:=by omega
  have L2:ht-la<=n:=by omega
  have L3:∀i,i<ht+1-min of (ht+1)->Bey rk lf ky ar bs i:=λi hi=>(a5 (by omega)).mono sg (by omega) (by omega);have L4:∀i,ht-la<=i->i<n-> ¬Bey rk lf ky ar bs i:=λi h1 h2 q=>a4 (q.mono sg h2 h1);refine wpS_bind (wpS_mono (wpS_forRange (I:=λi x st2=>st=st2/\∃l h,x=(none,l,h)/\l<=h/\h<=n/\h-l<=n-i/\(∀i,i<l->Bey rk lf ky ar bs i)/\∀i,h<=i->i<n-> ¬Bey rk lf ky ar bs i)
   (Q:=λx st2=>st=st2/\∃l,x=(none,l,l)/\l<=n/\(∀i,i<l->Bey rk lf ky ar bs i)/\∀i,l<=i->i<n-> ¬Bey rk lf ky ar bs i) ?vs ?ve ⟨rfl,_,_,rfl,L1,L2,by omega,L3,L4⟩) ?vp)
  case ve=>
   rintro x st2 ⟨rfl,l,h',rfl,a1,a2,a3,a4,a5⟩;have e:l=h':=by omega
   subst e;exact⟨rfl,l,rfl,a2,a4,a5⟩
  case vp=>
   rintro x st2 ⟨rfl,l,rfl,a2,a4,a5⟩;exact wpS_pure (h l a2 a4 a5)
  case vs=>
   rintro i x st2 _ hi ⟨rfl,l,h',rfl,a1,a2,a3,a4,a5⟩;dsimp only;by_cases hg:l>=h'
   ·rw[if_pos hg];have e:l=h':=by omega
    subst e;exact wpS_pure ⟨rfl,l,rfl,a2,a4,a5⟩
   ·rw[if_neg hg];refine wpS_bind (at_ (by omega) ?_);by_cases hm:Bey rk lf ky ar bs (l+(h'-l)/2)
    ·rw[decide_eq_true hm];refine wpS_pure ⟨rfl,_,h',rfl,by omega,a2,by omega,λj hj=>hm.mono sg (by omega) (by omega),a5⟩
    ·rw[decide_eq_false hm];refine wpS_pure ⟨rfl,l,_,rfl,by omega,by omega,by omega,a4,λj h1 h2 q=>hm (q.mono sg h2 h1)⟩
end
end So
end
section
namespace So
open PySem PyProof.Rows
section
variable {rk:Keyed->Int}{la lb o:List Keyed}{ia ib:Nat}
abbrev Srt(rk:Keyed->Int)(l:List Keyed):Prop:=l.Pairwise λx y=>rk x<=rk y
structure MG(rk:Keyed->Int)(la lb o:List Keyed)(ia ib:Nat):Prop where
 perm:(o++(la.drop ia++lb.drop ib)).Perm (la++lb)
 srt:Srt rk o
 low:∀x∈o,∀y,y∈la.drop ia\/y∈lb.drop ib->rk x<=rk y
def Mrg(rk:Keyed->Int)(la lb r:List Keyed):Prop:=r.Perm (la++lb)/\Srt rk r
theorem SC{l:List Keyed}{k:Nat}{x:Keyed}(h:x∈l.take k):x∈l:=List.mem_of_mem_take h
theorem mem_of_drop{l:List Keyed}{k:Nat}{x:Keyed}(h:x∈l.drop k):x∈l:=List.mem_of_mem_drop h
theorem MG.takeA(m:MG rk la lb o ia ib)(sa:Srt rk la)(k:Nat)(h:∀x∈(la.drop ia).take k,∀y∈lb.drop ib,rk x<=rk y):MG rk la lb (o++(la.drop ia).take k) (ia+k) ib:=by
 have hs:Srt rk (la.drop ia):=sa.sublist (List.drop_sublist _ _);have e:la.drop ia=(la.drop ia).take k++la.drop (ia+k):=by
  rw[←List.drop_drop];exact(List.take_append_drop k (la.drop ia)).symm
 refine⟨?_,?_,λx hx y hy=>?_⟩
 ·have:=m.perm;rw[e] at this;simpa[List.append_assoc] using this
 ·refine List.pairwise_append.mpr ⟨m.srt,hs.sublist (List.take_sublist _ _),λx hx y hy=>m.low x hx y (.inl (SC hy))⟩
 ·rcases List.mem_append.mp hx with hx|hx
  ·refine m.low x hx y ?_;rcases hy with hy|hy
   ·left;rw[e];exact List.mem_append_right _ hy
   ·exact .inr hy
  ·rcases hy with hy|hy
   ·rw[e] at hs;exact(List.pairwise_append.mp hs).2.2 x hx y hy
   ·exact h x hx y hy
theorem MG.takeB(m:MG rk la lb o ia ib)(sb:Srt rk lb)(k:Nat)(h:∀x∈(lb.drop ib).take k,∀y∈la.drop ia,rk x<=rk y):MG rk la lb (o++(lb.drop ib).take k) ia (ib+k):=by
 have hs:Srt rk (lb.drop ib):=sb.sublist (List.drop_sublist _ _);have e:lb.drop ib=(lb.drop ib).take k++lb.drop (ib+k):=by
  rw[←List.drop_drop];exact(List.take_append_drop k (lb.drop ib)).symm
 refine⟨?_,?_,λx hx y hy=>?_⟩
 ·have p:=m.perm;rw[e] at p;refine List.Perm.trans ?_ p;rw[List.append_assoc];refine List.Perm.append_left o ?_;rw[←List.append_assoc,←List.append_assoc];exact List.Perm.append_right _ List.perm_append_comm
 ·refine List.pairwise_append.mpr ⟨m.srt,hs.sublist (List.take_sublist _ _),λx hx y hy=>m.low x hx y (.inr (SC hy))⟩
 ·rcases List.mem_append.mp hx with hx|hx
  ·refine m.low x hx y ?_;rcases hy with hy|hy
   ·exact .inl hy
   ·right;rw[e];exact List.mem_append_right _ hy
  ·rcases hy with hy|hy
   ·exact h x hx y hy
   ·rw[e] at hs;exact(List.pairwise_append.mp hs).2.2 x hx y hy
theorem Ts{l:List Keyed}{i:Nat}{x:Keyed}(h:l[i]?=some x):(l.drop i).take 1=[x]:=by
 have hi:=(List.getElem?_eq_some_iff.mp h).1;rw[List.drop_eq_getElem_cons hi];simp[(List.getElem?_eq_some_iff.mp h).2]
theorem MG.endB(m:MG rk la lb o ia ib)(sa:Srt rk la)(h:lb.length<=ib):Mrg rk la lb (o++la.drop ia++lb.drop ib):=by
 have e:lb.drop ib=[]:=List.drop_eq_nil_of_le h;refine⟨by rw[List.append_assoc];exact m.perm,?_⟩;rw[e,List.append_nil];exact List.pairwise_append.mpr ⟨m.srt,sa.sublist (List.drop_sublist _ _),λx hx y hy=>m.low x hx y (.inl hy)⟩
theorem MG.endA(m:MG rk la lb o ia ib)(sb:Srt rk lb)(h:la.length<=ia):Mrg rk la lb (o++la.drop ia++lb.drop ib):=by
 have e:la.drop ia=[]:=List.drop_eq_nil_of_le h;refine⟨by rw[List.append_assoc];exact m.perm,?_⟩;rw[e,List.append_nil];exact List.pairwise_append.mpr ⟨m.srt,sb.sublist (List.drop_sublist _ _),λx hx y hy=>m.low x hx y (.inr hy)⟩
theorem MG.lastA(m:MG rk la lb o ia ib)(sa:Srt rk la)(sb:Srt rk lb)(mx:∀x∈la.drop ia,∀y∈lb,rk y<=rk x):Mrg rk la lb (o++lb.drop ib++la.drop ia):=by
 refine⟨?_,?_⟩
 ·rw[List.append_assoc];exact(List.Perm.append_left o List.perm_append_comm).trans m.perm
 ·rw[List.append_assoc];refine List.pairwise_append.mpr ⟨m.srt,List.pairwise_append.mpr ⟨sb.sublist (List.drop_sublist _ _),sa.sublist (List.drop_sublist _ _),λx hx y hy=>mx y hy x (mem_of_drop hx)⟩,λx hx y hy=>m.low x hx y ?_⟩;rcases List.mem_append.mp hy with hy|hy
  ·exact .inr hy
  ·exact .inl hy
end
noncomputable def mlo:Array Keyed->Array Keyed->StateT SortSt Sem (Array Keyed):=sortPriv% PySem.Builtin.mergeLo
noncomputable def sgl:Nat->StateT SortSt Sem Unit:=sortPriv% PySem.Builtin.setMinGallop
theorem QU(g:Nat):sgl g=modify λz=>SortSt.mk' (kindOf z) (arrOf z) (pendingOf z) g (failedOf z):=rfl
abbrev S5:=Option (Array Keyed)×Array Keyed×Nat×Nat×Nat×Nat
abbrev S6:=Option (Array Keyed)×Array Keyed×Nat×Nat×Nat×Nat×Nat
abbrev S4:=Option (Array Keyed)×Array Keyed×Nat×Nat×Nat
section
variable (x y:Array Keyed)
noncomputable def dnL(r:Array Keyed)(i j:Nat):Array Keyed:=r++x.extract i x.size++y.extract j y.size
noncomputable def lsL(r:Array Keyed)(i j:Nat):Array Keyed:=r++y.extract j y.size++x.extract i x.size
noncomputable def one1(mg:Nat)(r:Array Keyed)(i j ca cb:Nat):StateT SortSt Sem (ForInStep S5):=do
 let e←elem' y j
 let f←elem' x i
 let o←lt' e f
 match o with
 |some bw=>
  (if bw=true then
   (do
    let e←elem' y j
    (if (j+1==y.size)=true then pure (.done (some (dnL x y (r.push e) i (j+1)),r.push e,i,j+1,0,cb+1))
     else (if cb+1>=mg then pure (.done (none,r.push e,i,j+1,0,cb+1)) else pure (.yield (none,r.push e,i,j+1,0,cb+1)))))
   else
   (do
    let e←elem' x i
    (if (i+1+1==x.size)=true then pure (.done (some (lsL x y (r.push e) (i+1) j),r.push e,i+1,j,ca+1,0))
     else (if ca+1>=mg then pure (.done (none,r.push e,i+1,j,ca+1,0)) else pure (.yield (none,r.push e,i+1,j,ca+1,0))))))
 |_=>pure (.done (some (dnL x y r i j),r,i,j,ca,cb))
noncomputable def gr2(r:Array Keyed)(i j mg k k1:Nat):StateT SortSt Sem (ForInStep S6):=do
 let e←elem' x i
 (if (i+1+1==x.size)=true then pure (.done (some (lsL x y (r.push e) (i+1) j),r.push e,i+1,j,mg,k,k1))
  else (if (decide (k<7)&&decide (k1<7))=true then pure (.done (none,r.push e,i+1,j,mg,k,k1)) else pure (.yield (none,r.push e,i+1,j,mg,k,k1))))
noncomputable def gr1(r:Array Keyed)(i j mg k cb:Nat):StateT SortSt Sem (ForInStep S6):=do
 let e←elem' y j
 (if (j+1==y.size)=true then pure (.done (some (dnL x y (r.push e) i (j+1)),r.push e,i,j+1,mg,k,cb))
  else
  (do
   let f←elem' x i
   let o←gal true f y (j+1) (y.size-(j+1)) 0
   match o with
   |some k1=>
    (if k1>0 then
     (if (j+1+k1==y.size)=true then pure (.done (some (dnL x y (r.push e++y.extract (j+1) (j+1+k1)) i (j+1+k1)),r.push e++y.extract (j+1) (j+1+k1),i,j+1+k1,mg,k,k1))
      else gr2 x y (r.push e++y.extract (j+1) (j+1+k1)) i (j+1+k1) mg k k1)
     else gr2 x y (r.push e) i (j+1) mg k k1)
   |_=>pure (.done (some (dnL x y (r.push e) i (j+1)),r.push e,i,j+1,mg,k,cb))))
noncomputable def gr0(r:Array Keyed)(i j mg ca cb:Nat):StateT SortSt Sem (ForInStep S6):=do
 sgl mg
 let e←elem' y j
 let o←gal false e x i (x.size-i) 0
 match o with
 |some k=>
  (if k>0 then
   (if (i+k+1==x.size)=true then pure (.done (some (lsL x y (r++x.extract i (i+k)) (i+k) j),r++x.extract i (i+k),i+k,j,mg,k,cb))
    else (if (i+k==x.size)=true then pure (.done (some (dnL x y (r++x.extract i (i+k)) (i+k) j),r++x.extract i (i+k),i+k,j,mg,k,cb))
     else gr1 x y (r++x.extract i (i+k)) (i+k) j mg k cb))
   else gr1 x y r i j mg k cb)
 |_=>pure (.done (some (dnL x y r i j),r,i,j,mg,ca,cb))
noncomputable def all1(z:S4):StateT SortSt Sem (ForInStep S4):=do
 let a←forIn [0:x.size+y.size] ((none,z.2.1,z.2.2.1,z.2.2.2.1,0,0):S5) λ_ a=>one1 x y z.2.2.2.2 a.2.1 a.2.2.1 a.2.2.2.1 a.2.2.2.2.1 a.2.2.2.2.2
 match a.1 with
 |some r=>pure (.done (some r,a.2.1,a.2.2.1,a.2.2.2.1,z.2.2.2.2))
 |none=>do
  liftM (rule "list.sort.gallop")
  let b←forIn [0:x.size+y.size] ((none,a.2.1,a.2.2.1,a.2.2.2.1,z.2.2.2.2+1,a.2.2.2.2.1,a.2.2.2.2.2):S6) λ_ b=>
   if b.2.2.2.2.1>1 then gr0 x y b.2.1 b.2.2.1 b.2.2.2.1 (b.2.2.2.2.1-1) b.2.2.2.2.2.1 b.2.2.2.2.2.2 else gr0 x y b.2.1 b.2.2.1 b.2.2.2.1 b.2.2.2.2.1 b.2.2.2.2.2.1 b.2.2.2.2.2.2
  match b.1 with
  |some r=>pure (.done (some r,b.2.1,b.2.2.1,b.2.2.2.1,b.2.2.2.2.1))
  |none=>do
   sgl (b.2.2.2.2.1+1)
   pure (.yield (none,b.2.1,b.2.2.1,b.2.2.2.1,b.2.2.2.2.1+1))
end
theorem mlo_eq0(x y:Array Keyed):mlo x y=(do
 rule "list.sort.merge-lo"
 let tot:=x.size+y.size
 let dn (r:Array Keyed) (i j:Nat):=r++x.extract i x.size++y.extract j y.size
 let ls (r:Array Keyed) (i j:Nat):=r++y.extract j y.size++x.extract i x.size
 let mut r:Array Keyed:= #[←elem' y 0]
 let mut i:=0
 let mut j:=1
 if j==y.size then return dn r i j
 if i+1==x.size then return ls r i j
 let mut mg:=gallopOf (←get)
 for _ in [0:tot] do
  let mut ca:=0
  let mut cb:=0
  for _ in [0:tot] do
   let some bw←lt' (←elem' y j) (←elem' x i)|return dn r i j
   if bw then
    r:=r.push (←elem' y j);j:=j+1;cb:=cb+1;ca:=0
    if j==y.size then return dn r i j
    if cb>=mg then break
   else
    r:=r.push (←elem' x i);i:=i+1;ca:=ca+1;cb:=0
    if i+1==x.size then return ls r i j
    if ca>=mg then break
  rule "list.sort.gallop"
  mg:=mg+1
  for _ in [0:tot] do
   if mg>1 then mg:=mg-1
   sgl mg
   let some k←gal false (←elem' y j) x i (x.size-i) 0|return dn r i j
   ca:=k
   if k>0 then
    r:=r++x.extract i (i+k);i:=i+k
    if i+1==x.size then return ls r i j
    if i==x.size then return dn r i j
   r:=r.push (←elem' y j);j:=j+1
   if j==y.size then return dn r i j
   let some k←gal true (←elem' x i) y j (y.size-j) 0|return dn r i j
   cb:=k
   if k>0 then
    r:=r++y.extract j (j+k);j:=j+k
    if j==y.size then return dn r i j
   r:=r.push (←elem' x i);i:=i+1
   if i+1==x.size then return ls r i j
   if ca<7&&cb<7 then break
  mg:=mg+1
  sgl mg
 unsupported "internal:list.sort.merge-bound"):=rfl
set_option maxHeartbeats 2000000 in
theorem mlo_eq(x y:Array Keyed):mlo x y=(do
 rule "list.sort.merge-lo"
 let e←elem' y 0
 (if (1==y.size)=true then pure (dnL x y #[e] 0 1)
  else (if (0+1==x.size)=true then pure (lsL x y #[e] 0 1)
   else (do
    let g←get
    let z←forIn [0:x.size+y.size] ((none,#[e],0,1,gallopOf g):S4) λ_ z=>all1 x y z
    match z.1 with
    |some r=>pure r
    |none=>liftM (unsupported "internal:list.sort.merge-bound":Sem (Array Keyed)))))):=by
 rw[mlo_eq0];congr 1
 funext _u;dsimp only;congr 1
 funext e;refine ite_congr rfl (λ_=>rfl) (λ_=>ite_congr rfl (λ_=>rfl) (λ_=>?_));congr 1
 funext g;congr 1
 ·congr 1
  funext _v z;unfold all1;congr 1
  ·funext a;obtain⟨a1,a2,a3,a4,a5,a6⟩:=a;cases a1 with
   |some r=>rfl
   |none=>
    dsimp only;congr 1
    funext _v3;congr 1
    funext b;obtain⟨b1,b2,b3,b4,b5,b6,b7⟩:=b;cases b1<;>rfl
 ·funext z;obtain⟨z1,z2⟩:=z;cases z1<;>rfl
end So
end
section
namespace So
open PySem PyProof.Rows
section
variable {prog:Program}{w:World}{A:Around}{E:Value->Shared->Prop}{s:Shared}{rk:Keyed->Int}{U:Keyed->Prop}{knd:SortKind}
abbrev setG(st:SortSt)(g:Nat):SortSt:=SortSt.mk' (kindOf st) (arrOf st) (pendingOf st) g (failedOf st)
theorem ZP{st:SortSt}{ar:Array Keyed}{i:Nat}{Q:Keyed->SortSt->Prop}{e:Keyed}(h:ar[i]?=some e)(q:Q e st):wpS (model prog w) A E s (elem' ar i) Q st:=by
 rw[elem'_eq,h];exact wpS_pure q
theorem YR{x:Array Keyed}{i:Nat}(h:i<x.size):∃e,x[i]?=some e/\e∈x/\R rk x i=rk e/\x.toList[i]?=some e:=by
 refine⟨x[i],by simp[h],Array.getElem_mem h,?_,by rw[Array.getElem?_toList];simp[h]⟩;unfold R;rw[show x[i]?=some x[i] by simp[h]]
theorem Vf{x:Array Keyed}{i:Nat}{z:Keyed}(h:z∈x.toList.drop i):∃m,i+m<x.size/\R rk x (i+m)=rk z:=by
 obtain⟨m,hm⟩:=List.mem_iff_getElem?.mp h;rw[List.getElem?_drop,Array.getElem?_toList] at hm;refine⟨m,(Array.getElem?_eq_some_iff.mp hm).1,?_⟩;unfold R;rw[hm]
theorem Uj{x:Array Keyed}{i k:Nat}{z:Keyed}(h:z∈(x.toList.drop i).take k):∃m,m<k/\i+m<x.size/\R rk x (i+m)=rk z:=by
 obtain⟨m,hm⟩:=List.mem_iff_getElem?.mp h;rw[List.getElem?_take] at hm;by_cases hk:m<k
 ·rw[if_pos hk,List.getElem?_drop,Array.getElem?_toList] at hm;refine⟨m,hk,(Array.getElem?_eq_some_iff.mp hm).1,?_⟩;unfold R;rw[hm]
 ·rw[if_neg hk] at hm;cases hm
theorem XQ{x:Array Keyed}(h:Srt rk x.toList)(i:Nat){j:Nat}(hj:j<=x.size):Seg rk x i j:=λp q _ hpq hq=>by
 by_cases e:p=q
 ·rw[e];exact Int.le_refl _
 ·obtain⟨a,_,_,ra,ta⟩:=YR (rk:=rk) (x:=x) (i:=p) (by omega);obtain⟨b,_,_,rb,tb⟩:=YR (rk:=rk) (x:=x) (i:=q) (by omega);rw[ra,rb];have hp:=(List.getElem?_eq_some_iff.mp ta);have hq':=(List.getElem?_eq_some_iff.mp tb);have:=List.pairwise_iff_getElem.mp h p q hp.1 hq'.1 (by omega);rw[hp.2,hq'.2] at this;exact this
theorem Xb{x:Array Keyed}{i j:Nat}:(x.extract i j).toList=(x.toList.drop i).take (j-i):=by simp
theorem Rg{x:Array Keyed}{i:Nat}:(x.extract i x.size).toList=x.toList.drop i:=by
 rw[Xb,List.take_of_length_le];simp
structure Lo(rk:Keyed->Int)(U:Keyed->Prop)(x y:Array Keyed):Prop where
 ux:∀e,e∈x->U e
 uy:∀e,e∈y->U e
 sx:Srt rk x.toList
 sy:Srt rk y.toList
 mx:∀m,m<y.size->R rk y m<=R rk x (x.size-1)
abbrev Good(rk:Keyed->Int)(x y r:Array Keyed):Prop:=Mrg rk x.toList y.toList r.toList
structure VLo(rk:Keyed->Int)(x y r:Array Keyed)(i j:Nat):Prop where
 mg:MG rk x.toList y.toList r.toList i j
 hi:i+1<x.size
 hj:j<y.size
variable {x y r:Array Keyed}{i j:Nat}
theorem TR(L:Lo rk U x y)(m:MG rk x.toList y.toList r.toList i j)(h:y.size<=j\/x.size<=i):Good rk x y (dnL x y r i j):=by
 unfold dnL Good;rw[Array.toList_append,Array.toList_append,Rg,Rg];rcases h with h|h
 ·exact m.endB L.sx (by simpa using h)
 ·exact m.endA L.sy (by simpa using h)
theorem Rb(L:Lo rk U x y)(m:MG rk x.toList y.toList r.toList i j)(h:i+1=x.size):Good rk x y (lsL x y r i j):=by
 unfold lsL Good;rw[Array.toList_append,Array.toList_append,Rg,Rg];refine m.lastA L.sx L.sy λu hu v hv=>?_;obtain⟨a,ha,ra⟩:=Vf (rk:=rk) hu;have hv':v∈y.toList.drop 0:=hv;obtain⟨b,hb,rb⟩:=Vf (rk:=rk) hv';have e:i+a=x.size-1:=by omega
 rw[←ra,←rb,e];exact L.mx _ hb
theorem VLo.pushY(v:VLo rk x y r i j)(L:Lo rk U x y){e:Keyed}(he:y[j]?=some e)(h:∀m,i+m<x.size->rk e<=R rk x (i+m)):MG rk x.toList y.toList (r.push e).toList i (j+1):=by
 have h1:(y.toList.drop j).take 1=[e]:=Ts (by rw[Array.getElem?_toList];exact he);have:=v.mg.takeB L.sy 1 (by
  rw[h1];intro a ha b hb;have ea:a=e:=by simpa using ha
  obtain⟨m,hm,rm⟩:=Vf (rk:=rk) hb;rw[ea,←rm];exact h m hm)
 rw[h1] at this;rw[Array.toList_push];exact this
theorem VLo.pushX(v:VLo rk x y r i j)(L:Lo rk U x y){e:Keyed}(he:x[i]?=some e)(h:∀m,j+m<y.size->rk e<=R rk y (j+m)):MG rk x.toList y.toList (r.push e).toList (i+1) j:=by
 have h1:(x.toList.drop i).take 1=[e]:=Ts (by rw[Array.getElem?_toList];exact he);have:=v.mg.takeA L.sx 1 (by
  rw[h1];intro a ha b hb;have ea:a=e:=by simpa using ha
  obtain⟨m,hm,rm⟩:=Vf (rk:=rk) hb;rw[ea,←rm];exact h m hm)
 rw[h1] at this;rw[Array.toList_push];exact this
abbrev rem(x y:Array Keyed)(i j:Nat):Nat:=(x.size-i)+(y.size-j)
theorem one1_ok(c:Cmp prog w A E s rk U knd)(L:Lo rk U x y){st:SortSt}(hk:kindOf st=knd)(v:VLo rk x y r i j){mg ca cb:Nat}{Q:ForInStep S5->SortSt->Prop}
 (h1:∀R z,Good rk x y R->Q (.done (some R,z)) st)(h2:∀r' i' j' ca cb,VLo rk x y r' i' j'->rem x y i' j'+1<=rem x y i j->Q (.done (none,r',i',j',ca,cb)) st/\Q (.yield (none,r',i',j',ca,cb)) st):wpS (model prog w) A E s (one1 x y mg r i j ca cb) Q st:=by
 have hi:=v.hi;have hj:=v.hj;obtain⟨e,e1,e2,e3,e4⟩:=YR (rk:=rk) (x:=y) (i:=j) hj;obtain⟨f,f1,f2,f3,f4⟩:=YR (rk:=rk) (x:=x) (i:=i) (by omega);have sgx:=XQ L.sx i (Nat.le_refl x.size);have sgy:=XQ L.sy j (Nat.le_refl y.size);unfold one1;refine wpS_bind (ZP e1 (wpS_bind (ZP f1 (wpS_bind (c e f st _ (L.uy e e2) (L.ux f f2) hk ?_)))));by_cases hl:rk e<rk f
 ·rw[decide_eq_true hl];dsimp only;rw[if_pos rfl];refine wpS_bind (ZP e1 ?_);have m:=v.pushY L e1 (λm hm=>by
   have:=sgx i (i+m) (Nat.le_refl _) (by omega) hm;omega)
  by_cases hz:j+1=y.size
  ·rw[if_pos (by simpa using hz)];exact wpS_pure (h1 _ _ (TR L m (.inl (by omega))))
  ·rw[if_neg (by simpa using hz)];have q:=h2 (r.push e) i (j+1) 0 (cb+1) ⟨m,hi,by omega⟩ (by unfold rem;omega);by_cases hg:cb+1>=mg
   ·rw[if_pos hg];exact wpS_pure q.1
   ·rw[if_neg hg];exact wpS_pure q.2
 ·rw[decide_eq_false hl];dsimp only;rw[if_neg (by simp)];refine wpS_bind (ZP f1 ?_);have m:=v.pushX L f1 (λm hm=>by
   have:=sgy j (j+m) (Nat.le_refl _) (by omega) hm;omega)
  by_cases hz:i+1+1=x.size
  ·rw[if_pos (by simpa using hz)];exact wpS_pure (h1 _ _ (Rb L m hz))
  ·rw[if_neg (by simpa using hz)];have q:=h2 (r.push f) (i+1) j (ca+1) 0 ⟨m,by omega,hj⟩ (by unfold rem;omega);by_cases hg:ca+1>=mg
   ·rw[if_pos hg];exact wpS_pure q.1
   ·rw[if_neg hg];exact wpS_pure q.2
theorem gr2_ok(L:Lo rk U x y){st:SortSt}(v:VLo rk x y r i j){mg k k1:Nat}{Q:ForInStep S6->SortSt->Prop}(hle:∀m,j+m<y.size->R rk x i<=R rk y (j+m))
 (h1:∀R z,Good rk x y R->Q (.done (some R,z)) st)(h2:∀r' i' j' z,VLo rk x y r' i' j'->rem x y i' j'+1<=rem x y i j->Q (.done (none,r',i',j',mg,z)) st/\Q (.yield (none,r',i',j',mg,z)) st):wpS (model prog w) A E s (gr2 x y r i j mg k k1) Q st:=by
 have hi:=v.hi;have hj:=v.hj;obtain⟨f,f1,f2,f3,f4⟩:=YR (rk:=rk) (x:=x) (i:=i) (by omega);unfold gr2;refine wpS_bind (ZP f1 ?_);have m:=v.pushX L f1 (λm hm=>by rw[←f3];exact hle m hm);by_cases hz:i+1+1=x.size
 ·rw[if_pos (by simpa using hz)];exact wpS_pure (h1 _ _ (Rb L m hz))
 ·rw[if_neg (by simpa using hz)];have q:=h2 (r.push f) (i+1) j (k,k1) ⟨m,by omega,hj⟩ (by unfold rem;omega);by_cases hg:(decide (k<7)&&decide (k1<7))=true
  ·rw[if_pos hg];exact wpS_pure q.1
  ·rw[if_neg hg];exact wpS_pure q.2
theorem gr1_ok(c:Cmp prog w A E s rk U knd)(L:Lo rk U x y){st:SortSt}(hk:kindOf st=knd)(v:VLo rk x y r i j){mg k cb:Nat}{Q:ForInStep S6->SortSt->Prop}(hle:∀m,i+m<x.size->R rk y j<=R rk x (i+m))
 (h1:∀R z,Good rk x y R->Q (.done (some R,z)) st)(h2:∀r' i' j' z,VLo rk x y r' i' j'->rem x y i' j'+1<=rem x y i j->Q (.done (none,r',i',j',mg,z)) st/\Q (.yield (none,r',i',j',mg,z)) st):wpS (model prog w) A E s (gr1 x y r i j mg k cb) Q st:=by
 have hi:=v.hi;have hj:=v.hj;obtain⟨e,e1,e2,e3,e4⟩:=YR (rk:=rk) (x:=y) (i:=j) hj;obtain⟨f,f1,f2,f3,f4⟩:=YR (rk:=rk) (x:=x) (i:=i) (by omega);unfold gr1;refine wpS_bind (ZP e1 ?_);have m:=v.pushY L e1 (λm hm=>by rw[←e3];exact hle m hm);by_cases hz:j+1=y.size
 ·rw[if_pos (by simpa using hz)];exact wpS_pure (h1 _ _ (TR L m (.inl (by omega))))
 ·rw[if_neg (by simpa using hz)];refine wpS_bind (ZP f1 ?_);have en:j+1+(y.size-(j+1))=y.size:=by omega
  refine wpS_bind (UL c hk (L.ux f f2) (by omega) L.uy (XQ L.sy _ (by omega)) (by omega) λk1 hr b1 b2=>?_);dsimp only;have lows:∀q,q<k1->R rk y (j+1+q)<=R rk x i:=λq hq=>by
   have:=b1 q hq;unfold Bey at this;rw[if_pos rfl] at this;omega
  have highs:∀q,k1<=q->j+1+q<y.size->R rk x i<=R rk y (j+1+q):=λq hq hz=>by
   have:=b2 q hq (by omega);unfold Bey at this;rw[if_pos rfl] at this;omega
  by_cases hk0:k1>0
  ·rw[if_pos hk0];have sgx:=XQ L.sx i (Nat.le_refl x.size);have m2:MG rk x.toList y.toList (r.push e++y.extract (j+1) (j+1+k1)).toList i (j+1+k1):=by
    rw[Array.toList_append,Xb,show j+1+k1-(j+1)=k1 by omega];refine m.takeB L.sy k1 λa ha b hb=>?_;obtain⟨q,hq,hq2,rq⟩:=Uj (rk:=rk) ha;obtain⟨t,ht,rt⟩:=Vf (rk:=rk) hb;have h3:=lows q hq;have h4:=sgx i (i+t) (Nat.le_refl _) (by omega) ht;omega
   by_cases hz2:j+1+k1=y.size
   ·rw[if_pos (by simpa using hz2)];exact wpS_pure (h1 _ _ (TR L m2 (.inl (by omega))))
   ·rw[if_neg (by simpa using hz2)];refine gr2_ok L ⟨m2,hi,by omega⟩ (λq hq=>?_) h1 λr' i' j' z v' hr'=>h2 r' i' j' z v' (by unfold rem at *;omega);have:=highs (k1+q) (by omega) (by omega);rwa[show j+1+(k1+q)=j+1+k1+q by omega] at this
  ·rw[if_neg hk0];have ek:k1=0:=by omega
   subst ek;refine gr2_ok L ⟨m,hi,by omega⟩ (λq hq=>highs q (by omega) hq) h1 λr' i' j' z v' hr'=>h2 r' i' j' z v' (by unfold rem at *;omega)
theorem gr0_ok(c:Cmp prog w A E s rk U knd)(L:Lo rk U x y){st:SortSt}(hk:kindOf st=knd)(v:VLo rk x y r i j){mg ca cb:Nat}{Q:ForInStep S6->SortSt->Prop}
 (h1:∀R z,Good rk x y R->Q (.done (some R,z)) (setG st mg))(h2:∀r' i' j' z,VLo rk x y r' i' j'->rem x y i' j'+1<=rem x y i j->Q (.done (none,r',i',j',mg,z)) (setG st mg)/\Q (.yield (none,r',i',j',mg,z)) (setG st mg)):wpS (model prog w) A E s (gr0 x y r i j mg ca cb) Q st:=by
 have hi:=v.hi;have hj:=v.hj;obtain⟨e,e1,e2,e3,e4⟩:=YR (rk:=rk) (x:=y) (i:=j) hj;unfold gr0;rw[QU];refine wpS_bind (wpS_modify (wpS_bind (ZP e1 ?_)));refine wpS_bind (UL (st:=setG st mg) c hk (L.uy e e2) (by omega) L.ux (XQ L.sx _ (by omega)) (by omega) λk hr b1 b2=>?_);dsimp only;have sgy:=XQ L.sy j (Nat.le_refl y.size);have lows:∀q,q<k->R rk x (i+q)<=R rk y j:=λq hq=>by
  have:=b1 q hq;unfold Bey at this;rw[if_neg (by simp)] at this;omega
 have highs:∀q,k<=q->i+q<x.size->R rk y j<=R rk x (i+q):=λq hq hz=>by
  have:=b2 q hq (by omega);unfold Bey at this;rw[if_neg (by simp)] at this;omega
 by_cases hk0:k>0
 ·rw[if_pos hk0];have m2:MG rk x.toList y.toList (r++x.extract i (i+k)).toList (i+k) j:=by
   rw[Array.toList_append,Xb,show i+k-i=k by omega];refine v.mg.takeA L.sx k λa ha b hb=>?_;obtain⟨q,hq,hq2,rq⟩:=Uj (rk:=rk) ha;obtain⟨t,ht,rt⟩:=Vf (rk:=rk) hb;have h3:=lows q hq;have h4:=sgy j (j+t) (Nat.le_refl _) (by omega) ht;omega
  by_cases hz:i+k+1=x.size
  ·rw[if_pos (by simpa using hz)];exact wpS_pure (h1 _ _ (Rb L m2 hz))
  ·rw[if_neg (by simpa using hz)];by_cases hz2:i+k=x.size
   ·rw[if_pos (by simpa using hz2)];exact wpS_pure (h1 _ _ (TR L m2 (.inr (by omega))))
   ·rw[if_neg (by simpa using hz2)];refine gr1_ok c L (st:=setG st mg) hk ⟨m2,by omega,hj⟩ (λq hq=>?_) h1 λr' i' j' z v' hr'=>h2 r' i' j' z v' (by unfold rem at *;omega);have:=highs (k+q) (by omega) (by omega);rwa[show i+(k+q)=i+k+q by omega] at this
 ·rw[if_neg hk0];have ek:k=0:=by omega
  subst ek;exact gr1_ok c L (st:=setG st mg) hk v (λq hq=>highs q (by omega) hq) h1 h2
end
end So
end
section
namespace So
open PySem PyProof.Rows
section
variable {prog:Program}{w:World}{A:Around}{E:Value->Shared->Prop}{s:Shared}{rk:Keyed->Int}{U:Keyed->Prop}{knd:SortKind}{x y r:Array Keyed}{i j:Nat}
theorem all1_ok(c:Cmp prog w A E s rk U knd)(L:Lo rk U x y){st:SortSt}(hk:kindOf st=knd)(v:VLo rk x y r i j)(hf:rem x y i j<x.size+y.size){o:Option (Array Keyed)}{mg:Nat}{Q:ForInStep S4->SortSt->Prop}
 (h1:∀R z g,Good rk x y R->Q (.done (some R,z)) (setG st g))(h2:∀r' i' j' mg' g,VLo rk x y r' i' j'->rem x y i' j'+1<=rem x y i j->Q (.yield (none,r',i',j',mg')) (setG st g)):wpS (model prog w) A E s (all1 x y (o,r,i,j,mg)) Q st:=by
 unfold all1;refine wpS_bind (wpS_mono (wpS_forRange (I:=λt a st'=>st=st'/\∃r' i' j' ca cb,a=(none,r',i',j',ca,cb)/\VLo rk x y r' i' j'/\rem x y i' j'+t<=rem x y i j)
  (Q:=λa st'=>st=st'/\((∃R z,a=(some R,z)/\Good rk x y R)\/∃r' i' j' ca cb,a=(none,r',i',j',ca,cb)/\VLo rk x y r' i' j'/\rem x y i' j'+1<=rem x y i j)) ?s1 ?e1 ⟨rfl,r,i,j,0,0,rfl,v,Nat.le_refl _⟩) ?p1)
 case e1=>
  rintro a st' ⟨rfl,r',i',j',ca,cb,rfl,v',hr⟩;have:=v'.hi;unfold rem at *;omega
 case s1=>
  rintro t a st' _ ht ⟨rfl,r',i',j',ca,cb,rfl,v',hr⟩;dsimp only;refine one1_ok c L hk v' (λR z g=>⟨rfl,.inl ⟨R,z,rfl,g⟩⟩) λr2 i2 j2 ca2 cb2 v2 hr2=>⟨⟨rfl,.inr ⟨r2,i2,j2,ca2,cb2,rfl,v2,by omega⟩⟩,rfl,r2,i2,j2,ca2,cb2,rfl,v2,by omega⟩
 case p1=>
  rintro a st' ⟨rfl,⟨R,z,rfl,g⟩|⟨r',i',j',ca,cb,rfl,v',hr⟩⟩
  ·exact wpS_pure (h1 R _ (gallopOf st) g)
  ·dsimp only;refine wpS_bind (wpS_lift (wpAny_rule ⟨rfl,?_⟩));refine wpS_bind (wpS_mono (wpS_forRange (I:=λt b st'=>∃g,st'=setG st g/\∃r' i' j' mg' z,b=(none,r',i',j',mg',z)/\VLo rk x y r' i' j'/\rem x y i' j'+t+1<=rem x y i j)
    (Q:=λb st'=>∃g,st'=setG st g/\((∃R z,b=(some R,z)/\Good rk x y R)\/∃r' i' j' mg' z,b=(none,r',i',j',mg',z)/\VLo rk x y r' i' j'/\rem x y i' j'+1<=rem x y i j)) ?s2 ?e2 ⟨gallopOf st,rfl,r',i',j',_,_,rfl,v',hr⟩) ?p2)
   case e2=>
    rintro b st' ⟨g,rfl,r',i',j',mg',z,rfl,v',hr⟩;exact⟨g,rfl,.inr ⟨r',i',j',mg',z,rfl,v',by omega⟩⟩
   case s2=>
    rintro t b st' _ ht ⟨g,rfl,r',i',j',mg',⟨z1,z2⟩,rfl,v',hr⟩;dsimp only;by_cases hm:mg'>1
    ·rw[if_pos hm];exact gr0_ok c L (st:=setG st g) hk v' (λR z gd=>⟨mg'-1,rfl,.inl ⟨R,z,rfl,gd⟩⟩) λr2 i2 j2 z v2 hr2=>⟨⟨mg'-1,rfl,.inr ⟨r2,i2,j2,_,z,rfl,v2,by omega⟩⟩,mg'-1,rfl,r2,i2,j2,_,z,rfl,v2,by omega⟩
    ·rw[if_neg hm];exact gr0_ok c L (st:=setG st g) hk v' (λR z gd=>⟨mg',rfl,.inl ⟨R,z,rfl,gd⟩⟩) λr2 i2 j2 z v2 hr2=>⟨⟨mg',rfl,.inr ⟨r2,i2,j2,_,z,rfl,v2,by omega⟩⟩,mg',rfl,r2,i2,j2,_,z,rfl,v2,by omega⟩
   case p2=>
    rintro b st' ⟨g,rfl,⟨R,z,rfl,gd⟩|⟨r2,i2,j2,mg2,z,rfl,v2,hr2⟩⟩
    ·exact wpS_pure (h1 R _ g gd)
    ·dsimp only;rw[QU];exact wpS_bind (wpS_modify (wpS_pure (h2 r2 i2 j2 _ _ v2 hr2)))
theorem wpS_mlo(c:Cmp prog w A E s rk U knd)(L:Lo rk U x y){st:SortSt}(hk:kindOf st=knd)(hx:0<x.size)(hy:0<y.size)(h0:∀m,m<x.size->R rk y 0<=R rk x m){Q:Array Keyed->SortSt->Prop}(h:∀r g,Good rk x y r->Q r (setG st g)):wpS (model prog w) A E s (mlo x y) Q st:=by
 rw[mlo_eq];refine wpS_bind (wpS_lift (wpAny_rule ⟨rfl,?_⟩));obtain⟨e,e1,e2,e3,e4⟩:=YR (rk:=rk) (x:=y) (i:=0) hy;refine wpS_bind (ZP e1 ?_);have m0:MG rk x.toList y.toList [] 0 0:=⟨List.Perm.refl _,List.Pairwise.nil,λ_ h=>by cases h⟩;have m1:MG rk x.toList y.toList (#[e]:Array Keyed).toList 0 1:=by
  have h1:(y.toList.drop 0).take 1=[e]:=Ts e4;have:=m0.takeB L.sy 1 (by
   rw[h1];intro a ha b hb;have ea:a=e:=by simpa using ha
   obtain⟨m,hm,rm⟩:=Vf (rk:=rk) hb;rw[ea,←rm,←e3];exact h0 _ hm)
  rw[h1] at this;exact this
 by_cases hz:1=y.size
 ·rw[if_pos (by simpa using hz)];exact wpS_pure (h _ (gallopOf st) (TR L m1 (.inl (by omega))))
 ·rw[if_neg (by simpa using hz)];by_cases hz2:0+1=x.size
  ·rw[if_pos (by simpa using hz2)];exact wpS_pure (h _ (gallopOf st) (Rb L m1 hz2))
  ·rw[if_neg (by simpa using hz2)];refine wpS_bind (wpS_get ?_);refine wpS_bind (wpS_mono (wpS_forRange (I:=λt z st'=>∃g,st'=setG st g/\∃r i j mg,z=(none,r,i,j,mg)/\VLo rk x y r i j/\rem x y i j+t+1<=x.size+y.size)
    (Q:=λz st'=>∃g,st'=setG st g/\∃R z',z=(some R,z')/\Good rk x y R) ?os ?oe ⟨gallopOf st,rfl,#[e],0,1,_,rfl,⟨m1,by omega,by omega⟩,by unfold rem;omega⟩) ?op)
   case oe=>
    rintro z st' ⟨g,rfl,r,i,j,mg,rfl,v,hr⟩;have:=v.hi;unfold rem at hr;omega
   case os=>
    rintro t z st' _ ht ⟨g,rfl,r,i,j,mg,rfl,v,hr⟩;exact all1_ok c L (st:=setG st g) hk v (by omega) (λR z g gd=>⟨g,rfl,R,z,rfl,gd⟩) λr' i' j' mg' g v' hr'=>⟨g,rfl,r',i',j',mg',rfl,v',by omega⟩
   case op=>
    rintro z st' ⟨g,rfl,R,z',rfl,gd⟩;exact wpS_pure (h R g gd)
end
end So
end
section
namespace So
open PySem PyProof.Rows
section
variable {rk:Keyed->Int}{la lb o:List Keyed}{ia ib:Nat}
structure MH(rk:Keyed->Int)(la lb o:List Keyed)(ia ib:Nat):Prop where
 perm:(la.take ia++lb.take ib++o).Perm (la++lb)
 srt:Srt rk o
 hgh:∀x∈o,∀y,y∈la.take ia\/y∈lb.take ib->rk y<=rk x
theorem Rn{l:List Keyed}{i k:Nat}(h:k<=i):l.take i=l.take k++(l.drop k).take (i-k):=by
 rw[show l.take i=l.take (k+(i-k)) by rw[Nat.add_sub_cancel' h],List.take_add]
theorem MH.takeA(m:MH rk la lb o ia ib)(sa:Srt rk la){k:Nat}(hk:k<=ia)(h:∀x∈(la.drop k).take (ia-k),∀y∈lb.take ib,rk y<=rk x):MH rk la lb ((la.drop k).take (ia-k)++o) k ib:=by
 have hs:Srt rk (la.take ia):=sa.sublist (List.take_sublist _ _);have e:=Rn (l:=la) hk;refine⟨?_,?_,λx hx y hy=>?_⟩
 ·have p:=m.perm;rw[e] at p;refine List.Perm.trans ?_ p;rw[←List.append_assoc];refine List.Perm.append_right o ?_;rw[List.append_assoc,List.append_assoc];exact List.Perm.append_left _ List.perm_append_comm
 ·rw[e] at hs;exact List.pairwise_append.mpr ⟨(List.pairwise_append.mp hs).2.1,m.srt,λx hx y hy=>m.hgh y hy x (.inl (by rw[e];exact List.mem_append_right _ hx))⟩
 ·rcases List.mem_append.mp hx with hx|hx
  ·rcases hy with hy|hy
   ·rw[e] at hs;exact(List.pairwise_append.mp hs).2.2 y hy x hx
   ·exact h x hx y hy
  ·refine m.hgh x hx y ?_;rcases hy with hy|hy
   ·left;rw[e];exact List.mem_append_left _ hy
   ·exact .inr hy
theorem MH.takeB(m:MH rk la lb o ia ib)(sb:Srt rk lb){k:Nat}(hk:k<=ib)(h:∀x∈(lb.drop k).take (ib-k),∀y∈la.take ia,rk y<=rk x):MH rk la lb ((lb.drop k).take (ib-k)++o) ia k:=by
 have hs:Srt rk (lb.take ib):=sb.sublist (List.take_sublist _ _);have e:=Rn (l:=lb) hk;refine⟨?_,?_,λx hx y hy=>?_⟩
 ·have p:=m.perm;rw[e] at p;simpa[List.append_assoc] using p
 ·rw[e] at hs;exact List.pairwise_append.mpr ⟨(List.pairwise_append.mp hs).2.1,m.srt,λx hx y hy=>m.hgh y hy x (.inr (by rw[e];exact List.mem_append_right _ hx))⟩
 ·rcases List.mem_append.mp hx with hx|hx
  ·rcases hy with hy|hy
   ·exact h x hx y hy
   ·rw[e] at hs;exact(List.pairwise_append.mp hs).2.2 y hy x hx
  ·refine m.hgh x hx y ?_;rcases hy with hy|hy
   ·exact .inl hy
   ·right;rw[e];exact List.mem_append_left _ hy
theorem MH.endA(m:MH rk la lb o 0 ib)(sb:Srt rk lb):Mrg rk la lb (la.take 0++lb.take ib++o):=
 ⟨m.perm,List.pairwise_append.mpr ⟨sb.sublist (List.take_sublist _ _),m.srt,λx hx y hy=>m.hgh y hy x (.inr hx)⟩⟩
theorem MH.endB(m:MH rk la lb o ia 0)(sa:Srt rk la):Mrg rk la lb (la.take ia++lb.take 0++o):=by
 refine⟨m.perm,?_⟩;rw[show lb.take 0=[] from rfl,List.append_nil];exact List.pairwise_append.mpr ⟨sa.sublist (List.take_sublist _ _),m.srt,λx hx y hy=>m.hgh y hy x (.inl hx)⟩
theorem MH.firstB(m:MH rk la lb o ia ib)(sa:Srt rk la)(sb:Srt rk lb)(mn:∀x∈lb.take ib,∀y∈la,rk x<=rk y):Mrg rk la lb (lb.take ib++la.take ia++o):=by
 refine⟨(List.Perm.append_right o List.perm_append_comm).trans m.perm,?_⟩;refine List.pairwise_append.mpr ⟨List.pairwise_append.mpr ⟨sb.sublist (List.take_sublist _ _),sa.sublist (List.take_sublist _ _),λx hx y hy=>mn x hx y (List.mem_of_mem_take hy)⟩,m.srt,λx hx y hy=>m.hgh y hy x ?_⟩;rcases List.mem_append.mp hx with hx|hx
 ·exact .inr hx
 ·exact .inl hx
end
noncomputable def mhi:Array Keyed->Array Keyed->StateT SortSt Sem (Array Keyed):=sortPriv% PySem.Builtin.mergeHi
abbrev H5:=Option (Array Keyed)×Nat×Nat×Array Keyed×Nat×Nat
abbrev H6:=Option (Array Keyed)×Nat×Nat×Array Keyed×Nat×Nat×Nat
abbrev H4:=Option (Array Keyed)×Nat×Nat×Array Keyed×Nat
section
variable (x y:Array Keyed)
noncomputable def dnH(r:Array Keyed)(i j:Nat):Array Keyed:=x.extract 0 i++y.extract 0 j++r.reverse
noncomputable def fsH(r:Array Keyed)(i j:Nat):Array Keyed:=y.extract 0 j++x.extract 0 i++r.reverse
noncomputable def hone1(mg:Nat)(i j:Nat)(r:Array Keyed)(ca cb:Nat):StateT SortSt Sem (ForInStep H5):=do
 let e←elem' y (j-1)
 let f←elem' x (i-1)
 let o←lt' e f
 match o with
 |some aw=>
  (if aw=true then
   (do
    let e←elem' x (i-1)
    (if (i-1==0)=true then pure (.done (some (dnH x y (r.push e) (i-1) j),i-1,j,r.push e,ca+1,0))
     else (if ca+1>=mg then pure (.done (none,i-1,j,r.push e,ca+1,0)) else pure (.yield (none,i-1,j,r.push e,ca+1,0)))))
   else
   (do
    let e←elem' y (j-1)
    (if (j-1==1)=true then pure (.done (some (fsH x y (r.push e) i (j-1)),i,j-1,r.push e,0,cb+1))
     else (if cb+1>=mg then pure (.done (none,i,j-1,r.push e,0,cb+1)) else pure (.yield (none,i,j-1,r.push e,0,cb+1))))))
 |_=>pure (.done (some (dnH x y r i j),i,j,r,ca,cb))
noncomputable def hgr2(i j:Nat)(r:Array Keyed)(mg k k1:Nat):StateT SortSt Sem (ForInStep H6):=do
 let e←elem' x (i-1)
 (if (i-1==0)=true then pure (.done (some (dnH x y (r.push e) (i-1) j),i-1,j,r.push e,mg,k,k1))
  else (if (decide (k<7)&&decide (k1<7))=true then pure (.done (none,i-1,j,r.push e,mg,k,k1)) else pure (.yield (none,i-1,j,r.push e,mg,k,k1))))
noncomputable def hgr1(i j:Nat)(r:Array Keyed)(mg k cb:Nat):StateT SortSt Sem (ForInStep H6):=do
 let e←elem' y (j-1)
 (if (j-1==1)=true then pure (.done (some (fsH x y (r.push e) i (j-1)),i,j-1,r.push e,mg,k,cb))
  else
  (do
   let f←elem' x (i-1)
   let o←gal true f y 0 (j-1) (j-1-1)
   match o with
   |some p=>
    (if j-1-p>0 then
     (if (p==1)=true then pure (.done (some (fsH x y (r.push e++(y.extract p (j-1)).reverse) i p),i,p,r.push e++(y.extract p (j-1)).reverse,mg,k,j-1-p))
      else (if (p==0)=true then pure (.done (some (dnH x y (r.push e++(y.extract p (j-1)).reverse) i p),i,p,r.push e++(y.extract p (j-1)).reverse,mg,k,j-1-p))
       else hgr2 x y i p (r.push e++(y.extract p (j-1)).reverse) mg k (j-1-p)))
     else hgr2 x y i (j-1) (r.push e) mg k (j-1-p))
   |_=>pure (.done (some (dnH x y (r.push e) i (j-1)),i,j-1,r.push e,mg,k,cb))))
noncomputable def hgr0(i j:Nat)(r:Array Keyed)(mg ca cb:Nat):StateT SortSt Sem (ForInStep H6):=do
 sgl mg
 let e←elem' y (j-1)
 let o←gal false e x 0 i (i-1)
 match o with
 |some p=>
  (if i-p>0 then
   (if (p==0)=true then pure (.done (some (dnH x y (r++(x.extract p i).reverse) p j),p,j,r++(x.extract p i).reverse,mg,i-p,cb))
    else hgr1 x y p j (r++(x.extract p i).reverse) mg (i-p) cb)
   else hgr1 x y i j r mg (i-p) cb)
 |_=>pure (.done (some (dnH x y r i j),i,j,r,mg,ca,cb))
noncomputable def hall1(z:H4):StateT SortSt Sem (ForInStep H4):=do
 let a←forIn [0:x.size+y.size] ((none,z.2.1,z.2.2.1,z.2.2.2.1,0,0):H5) λ_ a=>hone1 x y z.2.2.2.2 a.2.1 a.2.2.1 a.2.2.2.1 a.2.2.2.2.1 a.2.2.2.2.2
 match a.1 with
 |some r=>pure (.done (some r,a.2.1,a.2.2.1,a.2.2.2.1,z.2.2.2.2))
 |none=>do
  liftM (rule "list.sort.gallop")
  let b←forIn [0:x.size+y.size] ((none,a.2.1,a.2.2.1,a.2.2.2.1,z.2.2.2.2+1,a.2.2.2.2.1,a.2.2.2.2.2):H6) λ_ b=>
   if b.2.2.2.2.1>1 then hgr0 x y b.2.1 b.2.2.1 b.2.2.2.1 (b.2.2.2.2.1-1) b.2.2.2.2.2.1 b.2.2.2.2.2.2 else hgr0 x y b.2.1 b.2.2.1 b.2.2.2.1 b.2.2.2.2.1 b.2.2.2.2.2.1 b.2.2.2.2.2.2
  match b.1 with
  |some r=>pure (.done (some r,b.2.1,b.2.2.1,b.2.2.2.1,b.2.2.2.2.1))
  |none=>do
   sgl (b.2.2.2.2.1+1)
   pure (.yield (none,b.2.1,b.2.2.1,b.2.2.2.1,b.2.2.2.2.1+1))
end
theorem mhi_eq0(x y:Array Keyed):mhi x y=(do
 rule "list.sort.merge-hi"
 let tot:=x.size+y.size
 let dn (r:Array Keyed) (i j:Nat):=x.extract 0 i++y.extract 0 j++r.reverse
 let fs (r:Array Keyed) (i j:Nat):=y.extract 0 j++x.extract 0 i++r.reverse
 let mut i:=x.size-1
 let mut j:=y.size
 let mut r:Array Keyed:= #[←elem' x i]
 if i==0 then return dn r i j
 if j==1 then return fs r i j
 let mut mg:=gallopOf (←get)
 for _ in [0:tot] do
  let mut ca:=0
  let mut cb:=0
  for _ in [0:tot] do
   let some aw←lt' (←elem' y (j-1)) (←elem' x (i-1))|return dn r i j
   if aw then
    i:=i-1;r:=r.push (←elem' x i);ca:=ca+1;cb:=0
    if i==0 then return dn r i j
    if ca>=mg then break
   else
    j:=j-1;r:=r.push (←elem' y j);cb:=cb+1;ca:=0
    if j==1 then return fs r i j
    if cb>=mg then break
  rule "list.sort.gallop"
  mg:=mg+1
  for _ in [0:tot] do
   if mg>1 then mg:=mg-1
   sgl mg
   let some p←gal false (←elem' y (j-1)) x 0 i (i-1)|return dn r i j
   let k:=i-p
   ca:=k
   if k>0 then
    r:=r++(x.extract p i).reverse;i:=p
    if i==0 then return dn r i j
   j:=j-1;r:=r.push (←elem' y j)
   if j==1 then return fs r i j
   let some p←gal true (←elem' x (i-1)) y 0 j (j-1)|return dn r i j
   let k:=j-p
   cb:=k
   if k>0 then
    r:=r++(y.extract p j).reverse;j:=p
    if j==1 then return fs r i j
    if j==0 then return dn r i j
   i:=i-1;r:=r.push (←elem' x i)
   if i==0 then return dn r i j
   if ca<7&&cb<7 then break
  mg:=mg+1
  sgl mg
 unsupported "internal:list.sort.merge-bound"):=rfl
set_option maxHeartbeats 2000000 in
theorem mhi_eq(x y:Array Keyed):mhi x y=(do
 rule "list.sort.merge-hi"
 let e←elem' x (x.size-1)
 (if (x.size-1==0)=true then pure (dnH x y #[e] (x.size-1) y.size)
  else (if (y.size==1)=true then pure (fsH x y #[e] (x.size-1) y.size)
   else (do
    let g←get
    let z←forIn [0:x.size+y.size] ((none,x.size-1,y.size,#[e],gallopOf g):H4) λ_ z=>hall1 x y z
    match z.1 with
    |some r=>pure r
    |none=>liftM (unsupported "internal:list.sort.merge-bound":Sem (Array Keyed)))))):=by
 rw[mhi_eq0];congr 1
 funext _u;dsimp only;congr 1
 funext e;refine ite_congr rfl (λ_=>rfl) (λ_=>ite_congr rfl (λ_=>rfl) (λ_=>?_));congr 1
 funext g;congr 1
 ·congr 1
  funext _v z;unfold hall1;congr 1
  ·funext a;obtain⟨a1,a2,a3,a4,a5,a6⟩:=a;cases a1 with
   |some r=>rfl
   |none=>
    dsimp only;congr 1
    funext _v3;congr 1
    funext b;obtain⟨b1,b2,b3,b4,b5,b6,b7⟩:=b;cases b1<;>rfl
 ·funext z;obtain⟨z1,z2⟩:=z;cases z1<;>rfl
end So
end
section
namespace So
open PySem PyProof.Rows
section
variable {prog:Program}{w:World}{A:Around}{E:Value->Shared->Prop}{s:Shared}{rk:Keyed->Int}{U:Keyed->Prop}{knd:SortKind}
structure Hi(rk:Keyed->Int)(U:Keyed->Prop)(x y:Array Keyed):Prop where
 ux:∀e,e∈x->U e
 uy:∀e,e∈y->U e
 sx:Srt rk x.toList
 sy:Srt rk y.toList
 mn:∀m,m<x.size->R rk y 0<=R rk x m
structure VH(rk:Keyed->Int)(x y r:Array Keyed)(i j:Nat):Prop where
 mg:MH rk x.toList y.toList r.toList.reverse i j
 i0:0<i
 i1:i<=x.size
 j0:1<j
 j1:j<=y.size
variable {x y r:Array Keyed}{i j:Nat}
theorem Rf{i:Nat}:(x.extract 0 i).toList=x.toList.take i:=by
 rw[Xb];simp
theorem TJ{i:Nat}{z:Keyed}(h:z∈x.toList.take i):∃m,m<i/\m<x.size/\R rk x m=rk z:=by
 have h':z∈(x.toList.drop 0).take i:=h;obtain⟨m,h1,h2,h3⟩:=Uj (rk:=rk) h';rw[Nat.zero_add] at h2 h3;exact⟨m,h1,h2,h3⟩
theorem UD(L:Hi rk U x y)(m:MH rk x.toList y.toList r.toList.reverse i j)(h:i=0\/j=0):Good rk x y (dnH x y r i j):=by
 unfold dnH Good;rw[Array.toList_append,Array.toList_append,Rf,Rf,Array.toList_reverse];rcases h with h|h
 ·subst h;exact m.endA L.sy
 ·subst h;exact m.endB L.sx
theorem TU(L:Hi rk U x y)(m:MH rk x.toList y.toList r.toList.reverse i 1):Good rk x y (fsH x y r i 1):=by
 unfold fsH Good;rw[Array.toList_append,Array.toList_append,Rf,Rf,Array.toList_reverse];refine m.firstB L.sx L.sy λu hu v hv=>?_;obtain⟨a,ha,_,ra⟩:=TJ (rk:=rk) hu;have hv':v∈x.toList.drop 0:=hv;obtain⟨b,hb,rb⟩:=Vf (rk:=rk) hv';have e:a=0:=by omega
 rw[←ra,←rb,e];exact L.mn _ hb
theorem pushH{e:Keyed}:(r.push e).toList.reverse=[e]++r.toList.reverse:=by simp
theorem one_last{l:List Keyed}{i:Nat}{e:Keyed}(h0:0<i)(h:l[i-1]?=some e):(l.drop (i-1)).take (i-(i-1))=[e]:=by
 rw[show i-(i-1)=1 by omega];exact Ts h
theorem MH.pushX(v:MH rk x.toList y.toList r.toList.reverse i j)(h0:0<i)(L:Hi rk U x y){e:Keyed}(he:x[i-1]?=some e)(h:∀m,m<j->m<y.size->R rk y m<=rk e):MH rk x.toList y.toList (r.push e).toList.reverse (i-1) j:=by
 have h1:=one_last (l:=x.toList) h0 (by rw[Array.getElem?_toList];exact he);have:=v.takeA L.sx (k:=i-1) (by omega) (by
  rw[h1];intro a ha b hb;have ea:a=e:=by simpa using ha
  obtain⟨m,hm,hm2,rm⟩:=TJ (rk:=rk) hb;rw[ea,←rm];exact h m hm hm2)
 rw[h1] at this;rw[pushH];exact this
theorem MH.pushY(v:MH rk x.toList y.toList r.toList.reverse i j)(h0:0<j)(L:Hi rk U x y){e:Keyed}(he:y[j-1]?=some e)(h:∀m,m<i->m<x.size->R rk x m<=rk e):MH rk x.toList y.toList (r.push e).toList.reverse i (j-1):=by
 have h1:=one_last (l:=y.toList) h0 (by rw[Array.getElem?_toList];exact he);have:=v.takeB L.sy (k:=j-1) (by omega) (by
  rw[h1];intro a ha b hb;have ea:a=e:=by simpa using ha
  obtain⟨m,hm,hm2,rm⟩:=TJ (rk:=rk) hb;rw[ea,←rm];exact h m hm hm2)
 rw[h1] at this;rw[pushH];exact this
theorem manyH{x r:Array Keyed}{p i:Nat}:(r++(x.extract p i).reverse).toList.reverse=(x.toList.drop p).take (i-p)++r.toList.reverse:=by
 rw[Array.toList_append,Array.toList_reverse,Xb];simp
theorem hone1_ok(c:Cmp prog w A E s rk U knd)(L:Hi rk U x y){st:SortSt}(hk:kindOf st=knd)(v:VH rk x y r i j){mg ca cb:Nat}{Q:ForInStep H5->SortSt->Prop}
 (h1:∀R z,Good rk x y R->Q (.done (some R,z)) st)(h2:∀r' i' j' ca cb,VH rk x y r' i' j'->i'+j'+1<=i+j->Q (.done (none,i',j',r',ca,cb)) st/\Q (.yield (none,i',j',r',ca,cb)) st):wpS (model prog w) A E s (hone1 x y mg i j r ca cb) Q st:=by
 obtain⟨vm,i0,i1,j0,j1⟩:=v;obtain⟨e,e1,e2,e3,e4⟩:=YR (rk:=rk) (x:=y) (i:=j-1) (by omega);obtain⟨f,f1,f2,f3,f4⟩:=YR (rk:=rk) (x:=x) (i:=i-1) (by omega);have sgx:=XQ L.sx 0 (Nat.le_refl x.size);have sgy:=XQ L.sy 0 (Nat.le_refl y.size);unfold hone1;refine wpS_bind (ZP e1 (wpS_bind (ZP f1 (wpS_bind (c e f st _ (L.uy e e2) (L.ux f f2) hk ?_)))));by_cases hl:rk e<rk f
 ·rw[decide_eq_true hl];dsimp only;rw[if_pos rfl];refine wpS_bind (ZP f1 ?_);have m:=vm.pushX i0 L f1 (λm hm hm2=>by
   have:=sgy m (j-1) (Nat.zero_le _) (by omega) (by omega);omega)
  by_cases hz:i-1=0
  ·rw[if_pos (by simpa using hz)];exact wpS_pure (h1 _ _ (UD L m (.inl hz)))
  ·rw[if_neg (by simpa using hz)];have q:=h2 (r.push f) (i-1) j (ca+1) 0 ⟨m,by omega,by omega,j0,j1⟩ (by omega);by_cases hg:ca+1>=mg
   ·rw[if_pos hg];exact wpS_pure q.1
   ·rw[if_neg hg];exact wpS_pure q.2
 ·rw[decide_eq_false hl];dsimp only;rw[if_neg (by simp)];refine wpS_bind (ZP e1 ?_);have m:=vm.pushY (by omega) L e1 (λm hm hm2=>by
   have:=sgx m (i-1) (Nat.zero_le _) (by omega) (by omega);omega)
  by_cases hz:j-1=1
  ·rw[if_pos (by simpa using hz)];rw[hz] at m ⊢;exact wpS_pure (h1 _ _ (TU L m))
  ·rw[if_neg (by simpa using hz)];have q:=h2 (r.push e) i (j-1) 0 (cb+1) ⟨m,i0,i1,by omega,by omega⟩ (by omega);by_cases hg:cb+1>=mg
   ·rw[if_pos hg];exact wpS_pure q.1
   ·rw[if_neg hg];exact wpS_pure q.2
theorem hgr2_ok(L:Hi rk U x y){st:SortSt}(v:VH rk x y r i j){mg k k1:Nat}{Q:ForInStep H6->SortSt->Prop}(hle:∀m,m<j->m<y.size->R rk y m<=R rk x (i-1))
 (h1:∀R z,Good rk x y R->Q (.done (some R,z)) st)(h2:∀r' i' j' z,VH rk x y r' i' j'->i'+j'+1<=i+j->Q (.done (none,i',j',r',mg,z)) st/\Q (.yield (none,i',j',r',mg,z)) st):wpS (model prog w) A E s (hgr2 x y i j r mg k k1) Q st:=by
 obtain⟨vm,i0,i1,j0,j1⟩:=v;obtain⟨f,f1,f2,f3,f4⟩:=YR (rk:=rk) (x:=x) (i:=i-1) (by omega);unfold hgr2;refine wpS_bind (ZP f1 ?_);have m:=vm.pushX i0 L f1 (λm hm hm2=>by rw[←f3];exact hle m hm hm2);by_cases hz:i-1=0
 ·rw[if_pos (by simpa using hz)];exact wpS_pure (h1 _ _ (UD L m (.inl hz)))
 ·rw[if_neg (by simpa using hz)];have q:=h2 (r.push f) (i-1) j (k,k1) ⟨m,by omega,by omega,j0,j1⟩ (by omega);by_cases hg:(decide (k<7)&&decide (k1<7))=true
  ·rw[if_pos hg];exact wpS_pure q.1
  ·rw[if_neg hg];exact wpS_pure q.2
theorem hgr1_ok(c:Cmp prog w A E s rk U knd)(L:Hi rk U x y){st:SortSt}(hk:kindOf st=knd)(v:VH rk x y r i j){mg k cb:Nat}{Q:ForInStep H6->SortSt->Prop}(hle:∀m,m<i->m<x.size->R rk x m<=R rk y (j-1))
 (h1:∀R z,Good rk x y R->Q (.done (some R,z)) st)(h2:∀r' i' j' z,VH rk x y r' i' j'->i'+j'+1<=i+j->Q (.done (none,i',j',r',mg,z)) st/\Q (.yield (none,i',j',r',mg,z)) st):wpS (model prog w) A E s (hgr1 x y i j r mg k cb) Q st:=by
 obtain⟨vm,i0,i1,j0,j1⟩:=v;obtain⟨e,e1,e2,e3,e4⟩:=YR (rk:=rk) (x:=y) (i:=j-1) (by omega);obtain⟨f,f1,f2,f3,f4⟩:=YR (rk:=rk) (x:=x) (i:=i-1) (by omega);unfold hgr1;refine wpS_bind (ZP e1 ?_);have m:=vm.pushY (by omega) L e1 (λm hm hm2=>by rw[←e3];exact hle m hm hm2);by_cases hz:j-1=1
 ·rw[if_pos (by simpa using hz)];rw[hz] at m ⊢;exact wpS_pure (h1 _ _ (TU L m))
 ·rw[if_neg (by simpa using hz)];refine wpS_bind (ZP f1 ?_);refine wpS_bind (UL c hk (L.ux f f2) (by omega) L.uy (XQ L.sy _ (by omega)) (by omega) λp hr b1 b2=>?_);dsimp only;have lows:∀q,q<p->R rk y q<=R rk x (i-1):=λq hq=>by
   have:=b1 q hq;unfold Bey at this;rw[if_pos rfl,Nat.zero_add] at this;omega
  have highs:∀q,p<=q->q<j-1->R rk x (i-1)<=R rk y q:=λq hq hz=>by
   have:=b2 q hq hz;unfold Bey at this;rw[if_pos rfl,Nat.zero_add] at this;omega
  by_cases hk0:j-1-p>0
  ·rw[if_pos hk0];have sgx:=XQ L.sx 0 (Nat.le_refl x.size);have m2:MH rk x.toList y.toList (r.push e++(y.extract p (j-1)).reverse).toList.reverse i p:=by
    rw[manyH];refine m.takeB L.sy (by omega) λa ha b hb=>?_;obtain⟨q,hq,hq2,rq⟩:=Uj (rk:=rk) ha;obtain⟨t,ht,ht2,rt⟩:=TJ (rk:=rk) hb;have h3:=highs (p+q) (by omega) (by omega);have h4:=sgx t (i-1) (Nat.zero_le _) (by omega) (by omega);omega
   by_cases hz2:p=1
   ·rw[if_pos (by simpa using hz2)];rw[hz2] at m2 ⊢;exact wpS_pure (h1 _ _ (TU L m2))
   ·rw[if_neg (by simpa using hz2)];by_cases hz3:p=0
    ·rw[if_pos (by simpa using hz3)];exact wpS_pure (h1 _ _ (UD L m2 (.inr hz3)))
    ·rw[if_neg (by simpa using hz3)];exact hgr2_ok L ⟨m2,i0,i1,by omega,by omega⟩ (λq hq _=>lows q hq) h1 λr' i' j' z v' hr'=>h2 r' i' j' z v' (by omega)
  ·rw[if_neg hk0];have ek:p=j-1:=by omega
   exact hgr2_ok L ⟨m,i0,i1,by omega,by omega⟩ (λq hq _=>lows q (by omega)) h1 λr' i' j' z v' hr'=>h2 r' i' j' z v' (by omega)
theorem hgr0_ok(c:Cmp prog w A E s rk U knd)(L:Hi rk U x y){st:SortSt}(hk:kindOf st=knd)(v:VH rk x y r i j){mg ca cb:Nat}{Q:ForInStep H6->SortSt->Prop}
 (h1:∀R z,Good rk x y R->Q (.done (some R,z)) (setG st mg))(h2:∀r' i' j' z,VH rk x y r' i' j'->i'+j'+1<=i+j->Q (.done (none,i',j',r',mg,z)) (setG st mg)/\Q (.yield (none,i',j',r',mg,z)) (setG st mg)):wpS (model prog w) A E s (hgr0 x y i j r mg ca cb) Q st:=by
 obtain⟨vm,i0,i1,j0,j1⟩:=v;obtain⟨e,e1,e2,e3,e4⟩:=YR (rk:=rk) (x:=y) (i:=j-1) (by omega);unfold hgr0;rw[QU];refine wpS_bind (wpS_modify (wpS_bind (ZP e1 ?_)));refine wpS_bind (UL (st:=setG st mg) c hk (L.uy e e2) (by omega) L.ux (XQ L.sx _ (by omega)) (by omega) λp hr b1 b2=>?_);dsimp only;have sgy:=XQ L.sy 0 (Nat.le_refl y.size);have lows:∀q,q<p->R rk x q<=R rk y (j-1):=λq hq=>by
  have:=b1 q hq;unfold Bey at this;rw[if_neg (by simp),Nat.zero_add] at this;omega
 have highs:∀q,p<=q->q<i->R rk y (j-1)<=R rk x q:=λq hq hz=>by
  have:=b2 q hq hz;unfold Bey at this;rw[if_neg (by simp),Nat.zero_add] at this;omega
 by_cases hk0:i-p>0
 ·rw[if_pos hk0];have m2:MH rk x.toList y.toList (r++(x.extract p i).reverse).toList.reverse p j:=by
   rw[manyH];refine vm.takeA L.sx (by omega) λa ha b hb=>?_;obtain⟨q,hq,hq2,rq⟩:=Uj (rk:=rk) ha;obtain⟨t,ht,ht2,rt⟩:=TJ (rk:=rk) hb;have h3:=highs (p+q) (by omega) (by omega);have h4:=sgy t (j-1) (Nat.zero_le _) (by omega) (by omega);omega
  by_cases hz:p=0
  ·rw[if_pos (by simpa using hz)];exact wpS_pure (h1 _ _ (UD L m2 (.inl hz)))
  ·rw[if_neg (by simpa using hz)];exact hgr1_ok c L (st:=setG st mg) hk ⟨m2,by omega,by omega,j0,j1⟩ (λq hq _=>lows q hq) h1 λr' i' j' z v' hr'=>h2 r' i' j' z v' (by omega)
 ·rw[if_neg hk0];have ek:p=i:=by omega
  exact hgr1_ok c L (st:=setG st mg) hk ⟨vm,i0,i1,j0,j1⟩ (λq hq _=>lows q (by omega)) h1 h2
theorem hall1_ok(c:Cmp prog w A E s rk U knd)(L:Hi rk U x y){st:SortSt}(hk:kindOf st=knd)(v:VH rk x y r i j){o:Option (Array Keyed)}{mg:Nat}{Q:ForInStep H4->SortSt->Prop}
 (h1:∀R z g,Good rk x y R->Q (.done (some R,z)) (setG st g))(h2:∀r' i' j' mg' g,VH rk x y r' i' j'->i'+j'+1<=i+j->Q (.yield (none,i',j',r',mg')) (setG st g)):wpS (model prog w) A E s (hall1 x y (o,i,j,r,mg)) Q st:=by
 unfold hall1;refine wpS_bind (wpS_mono (wpS_forRange (I:=λt a st'=>st=st'/\∃r' i' j' ca cb,a=(none,i',j',r',ca,cb)/\VH rk x y r' i' j'/\i'+j'+t<=i+j)
  (Q:=λa st'=>st=st'/\((∃R z,a=(some R,z)/\Good rk x y R)\/∃r' i' j' ca cb,a=(none,i',j',r',ca,cb)/\VH rk x y r' i' j'/\i'+j'+1<=i+j)) ?s1 ?e1 ⟨rfl,r,i,j,0,0,rfl,v,Nat.le_refl _⟩) ?p1)
 case e1=>
  rintro a st' ⟨rfl,r',i',j',ca,cb,rfl,v',hr⟩;have:=v'.i0;have:=v.i1;have:=v.j1;omega
 case s1=>
  rintro t a st' _ ht ⟨rfl,r',i',j',ca,cb,rfl,v',hr⟩;dsimp only;refine hone1_ok c L hk v' (λR z g=>⟨rfl,.inl ⟨R,z,rfl,g⟩⟩) λr2 i2 j2 ca2 cb2 v2 hr2=>⟨⟨rfl,.inr ⟨r2,i2,j2,ca2,cb2,rfl,v2,by omega⟩⟩,rfl,r2,i2,j2,ca2,cb2,rfl,v2,by omega⟩
 case p1=>
  rintro a st' ⟨rfl,⟨R,z,rfl,g⟩|⟨r',i',j',ca,cb,rfl,v',hr⟩⟩
  ·exact wpS_pure (h1 R _ (gallopOf st) g)
  ·dsimp only;refine wpS_bind (wpS_lift (wpAny_rule ⟨rfl,?_⟩));refine wpS_bind (wpS_mono (wpS_forRange (I:=λt b st'=>∃g,st'=setG st g/\∃r' i' j' mg' z,b=(none,i',j',r',mg',z)/\VH rk x y r' i' j'/\i'+j'+t+1<=i+j)
    (Q:=λb st'=>∃g,st'=setG st g/\((∃R z,b=(some R,z)/\Good rk x y R)\/∃r' i' j' mg' z,b=(none,i',j',r',mg',z)/\VH rk x y r' i' j'/\i'+j'+1<=i+j)) ?s2 ?e2 ⟨gallopOf st,rfl,r',i',j',_,_,rfl,v',hr⟩) ?p2)
   case e2=>
    rintro b st' ⟨g,rfl,r',i',j',mg',z,rfl,v',hr⟩;exact⟨g,rfl,.inr ⟨r',i',j',mg',z,rfl,v',by omega⟩⟩
   case s2=>
    rintro t b st' _ ht ⟨g,rfl,r',i',j',mg',⟨z1,z2⟩,rfl,v',hr⟩;dsimp only;by_cases hm:mg'>1
    ·rw[if_pos hm];exact hgr0_ok c L (st:=setG st g) hk v' (λR z gd=>⟨mg'-1,rfl,.inl ⟨R,z,rfl,gd⟩⟩) λr2 i2 j2 z v2 hr2=>⟨⟨mg'-1,rfl,.inr ⟨r2,i2,j2,_,z,rfl,v2,by omega⟩⟩,mg'-1,rfl,r2,i2,j2,_,z,rfl,v2,by omega⟩
    ·rw[if_neg hm];exact hgr0_ok c L (st:=setG st g) hk v' (λR z gd=>⟨mg',rfl,.inl ⟨R,z,rfl,gd⟩⟩) λr2 i2 j2 z v2 hr2=>⟨⟨mg',rfl,.inr ⟨r2,i2,j2,_,z,rfl,v2,by omega⟩⟩,mg',rfl,r2,i2,j2,_,z,rfl,v2,by omega⟩
   case p2=>
    rintro b st' ⟨g,rfl,⟨R,z,rfl,gd⟩|⟨r2,i2,j2,mg2,z,rfl,v2,hr2⟩⟩
    ·exact wpS_pure (h1 R _ g gd)
    ·dsimp only;rw[QU];exact wpS_bind (wpS_modify (wpS_pure (h2 r2 i2 j2 _ _ v2 hr2)))
theorem wpS_mhi(c:Cmp prog w A E s rk U knd)(L:Hi rk U x y){st:SortSt}(hk:kindOf st=knd)(hx:0<x.size)(hy:0<y.size)(h0:∀m,m<y.size->R rk y m<=R rk x (x.size-1)){Q:Array Keyed->SortSt->Prop}(h:∀r g,Good rk x y r->Q r (setG st g)):wpS (model prog w) A E s (mhi x y) Q st:=by
 rw[mhi_eq];refine wpS_bind (wpS_lift (wpAny_rule ⟨rfl,?_⟩));obtain⟨e,e1,e2,e3,e4⟩:=YR (rk:=rk) (x:=x) (i:=x.size-1) (by omega);refine wpS_bind (ZP e1 ?_);have m0:MH rk x.toList y.toList (#[]:Array Keyed).toList.reverse x.size y.size:=by
  refine⟨?_,List.Pairwise.nil,λ_ h=>by cases h⟩;rw[List.take_of_length_le (by simp),List.take_of_length_le (by simp)];simp
 have m1:MH rk x.toList y.toList (#[e]:Array Keyed).toList.reverse (x.size-1) y.size:=m0.pushX hx L e1 (λm hm _=>by rw[←e3];exact h0 m hm);by_cases hz:x.size-1=0
 ·rw[if_pos (by simpa using hz)];exact wpS_pure (h _ (gallopOf st) (UD L m1 (.inl hz)))
 ·rw[if_neg (by simpa using hz)];by_cases hz2:y.size=1
  ·rw[if_pos (by simpa using hz2)];rw[hz2] at m1 ⊢;exact wpS_pure (h _ (gallopOf st) (TU L m1))
  ·rw[if_neg (by simpa using hz2)];refine wpS_bind (wpS_get ?_);refine wpS_bind (wpS_mono (wpS_forRange (I:=λt z st'=>∃g,st'=setG st g/\∃r i j mg,z=(none,i,j,r,mg)/\VH rk x y r i j/\i+j+t+1<=x.size+y.size)
    (Q:=λz st'=>∃g,st'=setG st g/\∃R z',z=(some R,z')/\Good rk x y R) ?os ?oe ⟨gallopOf st,rfl,#[e],x.size-1,y.size,_,rfl,⟨m1,by omega,by omega,by omega,by omega⟩,by omega⟩) ?op)
   case oe=>
    rintro z st' ⟨g,rfl,r,i,j,mg,rfl,v,hr⟩;have:=v.i0;omega
   case os=>
    rintro t z st' _ ht ⟨g,rfl,r,i,j,mg,rfl,v,hr⟩;exact hall1_ok c L (st:=setG st g) hk v (λR z g gd=>⟨g,rfl,R,z,rfl,gd⟩) λr' i' j' mg' g v' hr'=>⟨g,rfl,r',i',j',mg',rfl,v',by omega⟩
   case op=>
    rintro z st' ⟨g,rfl,R,z',rfl,gd⟩;exact wpS_pure (h R g gd)
end
end So
end
section
namespace So
open PySem PyProof.Rows
noncomputable def mat:Nat->StateT SortSt Sem Bool:=sortPriv% PySem.Builtin.mergeAt
noncomputable def wri(a m:Array Keyed)(sa:Nat):Array Keyed:=m.toList.zipIdx.foldl (λa (p,j)=>a.setIfInBounds (sa+j) p) a
theorem mat_eq0(i:Nat):mat i=(do
 let s←get
 let (some (sa,na,power),some (sb,nb,_)):=((pendingOf s)[i]?,(pendingOf s)[i+1]?)|unsupported "internal:list.sort.pending"
 set (SortSt.mk' (kindOf s) (arrOf s) (((pendingOf s).setIfInBounds i (sa,na+nb,power)).eraseIdxIfInBounds (i+1)) (gallopOf s) (failedOf s))
 let some k←gal false (←elem' (arrOf s) sb) (arrOf s) sa na 0|return false
 let (sa,na):=(sa+k,na-k)
 if na==0 then return true
 let some nb←gal true (←elem' (arrOf s) (sa+na-1)) (arrOf s) sb nb (nb-1)|return false
 if nb==0 then return true
 let x:=(arrOf s).extract sa sb
 let y:=(arrOf s).extract sb (sb+nb)
 let merged←if na<=nb then mlo x y else mhi x y
 modify λs=>SortSt.mk' (kindOf s) (merged.toList.zipIdx.foldl (λa (p,j)=>a.setIfInBounds (sa+j) p) (arrOf s)) (pendingOf s) (gallopOf s) (failedOf s)
 return (failedOf (←get)).isNone):=rfl
section
variable {prog:Program}{w:World}{A:Around}{E:Value->Shared->Prop}{s:Shared}{rk:Keyed->Int}{U:Keyed->Prop}{knd:SortKind}{xs0:Array Keyed}
theorem wpS_set{st z:SortSt}{Q:PUnit->SortSt->Prop}(h:Q PUnit.unit z):wpS (model prog w) A E s (set z) Q st:=wpS_modify (f:=λ_=>z) h
theorem wri_fold(l:List Keyed):∀(a:Array Keyed) (sa n:Nat),sa+n+l.length<=a.size->let ys:=(l.zipIdx n).foldl (λa (p,j)=>a.setIfInBounds (sa+j) p) a
  ys.size=a.size/\∀k,ys[k]?=if sa+n<=k/\k<sa+n+l.length then l[k-(sa+n)]? else a[k]?:=by
 induction l with
 |nil=>
  intro a sa n h;refine⟨rfl,λk=>?_⟩;rw[if_neg (by simp)];rfl
 |cons x l ih=>
  intro a sa n h;rw[List.length_cons] at h;have:=ih (a.setIfInBounds (sa+n) x) sa (n+1) (by rw[Array.size_setIfInBounds];omega);dsimp only at this;rw[Array.size_setIfInBounds] at this;refine⟨this.1,λk=>?_⟩;have e:=this.2 k;rw[List.zipIdx_cons,List.foldl_cons];dsimp only;rw[e,List.length_cons];by_cases h1:k=sa+n
  ·rw[if_neg (by omega),if_pos (by omega),h1,Array.getElem?_setIfInBounds];simp;omega
  ·by_cases h2:sa+n+1<=k/\k<sa+n+1+l.length
   ·rw[if_pos (by omega),if_pos (by omega),show k-(sa+n)=(k-(sa+(n+1)))+1 by omega,List.getElem?_cons_succ]
   ·rw[if_neg (by omega),if_neg (by omega),Array.getElem?_setIfInBounds,if_neg (by omega)]
theorem QP{a m:Array Keyed}{sa:Nat}(h:sa+m.size<=a.size)(k:Nat):(wri a m sa)[k]?=if sa<=k/\k<sa+m.size then m[k-sa]? else a[k]?:=by
 have:=(wri_fold m.toList a sa 0 (by simpa using h)).2 k;simpa[wri] using this
theorem wri_perm{a m:Array Keyed}{sa:Nat}(h:sa+m.size<=a.size)(p:m.toList.Perm ((a.toList.drop sa).take m.size)):(wri a m sa).Perm a:=by
 have e:(wri a m sa).toList=a.toList.take sa++(m.toList++a.toList.drop (sa+m.size)):=by
  apply List.ext_getElem?
  intro k;rw[Array.getElem?_toList,QP h];by_cases h1:k<sa
  ·rw[if_neg (by omega),List.getElem?_append_left (by simp;omega),List.getElem?_take,if_pos h1,Array.getElem?_toList]
  ·rw[List.getElem?_append_right (by simp;omega),show (a.toList.take sa).length=sa by simp;omega];by_cases h2:k<sa+m.size
   ·rw[if_pos ⟨by omega,h2⟩,List.getElem?_append_left (by simp;omega),Array.getElem?_toList]
   ·rw[if_neg (by omega),List.getElem?_append_right (by simp;omega),List.getElem?_drop,Array.getElem?_toList];simp only[Array.length_toList];rw[show sa+m.size+(k-sa-m.size)=k by omega]
 have e2:a.toList=a.toList.take sa++((a.toList.drop sa).take m.size++a.toList.drop (sa+m.size)):=by
  rw[←List.drop_drop,List.take_append_drop,List.take_append_drop]
 refine Array.perm_iff_toList_perm.mpr ?_;rw[e];refine List.Perm.trans ?_ (List.Perm.of_eq e2.symm);exact List.Perm.append_left _ (List.Perm.append_right _ p)
end
end So
end
section
namespace So
open PySem PyProof.Rows
section
variable {prog:Program}{w:World}{A:Around}{E:Value->Shared->Prop}{s:Shared}{rk:Keyed->Int}{U:Keyed->Prop}{knd:SortKind}{xs0:Array Keyed}
theorem srt_ext{a:Array Keyed}{i j lo hi:Nat}(sg:Seg rk a lo hi)(h1:lo<=i)(h2:j<=hi):Srt rk (a.extract i j).toList:=by
 rw[Xb];refine List.pairwise_iff_getElem.mpr λp q hp hq hpq=>?_;have hp':=hp;have hq':=hq;rw[List.length_take,List.length_drop,Array.length_toList] at hp' hq';have e1:R rk a (i+p)=rk ((a.toList.drop i).take (j-i))[p]:=by
  unfold R;rw[show a[i+p]?=some ((a.toList.drop i).take (j-i))[p] by
   rw[List.getElem_take,List.getElem_drop,←Array.getElem?_toList];exact List.getElem?_eq_getElem _]
 have e2:R rk a (i+q)=rk ((a.toList.drop i).take (j-i))[q]:=by
  unfold R;rw[show a[i+q]?=some ((a.toList.drop i).take (j-i))[q] by
   rw[List.getElem_take,List.getElem_drop,←Array.getElem?_toList];exact List.getElem?_eq_getElem _]
 rw[←e1,←e2];exact sg _ _ (by omega) (by omega) (by omega)
theorem R_ext{a:Array Keyed}{i j k:Nat}(h:i+k<j)(hj:j<=a.size):R rk (a.extract i j) k=R rk a (i+k):=by
 unfold R;rw[Array.getElem?_extract,if_pos (by omega)]
theorem mem_ext{a:Array Keyed}{i j:Nat}{e:Keyed}(h:e∈a.extract i j):e∈a:=by
 have:e∈(a.extract i j).toList:=h.val;rw[Xb] at this;exact⟨List.mem_of_mem_drop (List.mem_of_mem_take this)⟩
theorem wri_ok{a m:Array Keyed}{sa na nb k n:Nat}(hz:sa+na+nb<=a.size)(hk:k<na)(hn:n<=nb)(hn0:0<n)(s1:Seg rk a sa (sa+na))(s2:Seg rk a (sa+na) (sa+na+nb))
 (l1:∀i,i<k->R rk a (sa+i)<=R rk a (sa+na))(l2:∀i,k<=i->i<na->R rk a (sa+na)<=R rk a (sa+i))(r1:∀i,i<n->R rk a (sa+na+i)<=R rk a (sa+na-1))(r2:∀i,n<=i->i<nb->R rk a (sa+na-1)<=R rk a (sa+na+i))
 (g:Good rk (a.extract (sa+k) (sa+na)) (a.extract (sa+na) (sa+na+n)) m):(wri a m (sa+k)).Perm a/\Seg rk (wri a m (sa+k)) sa (sa+na+nb)/\Out sa (sa+na+nb) a (wri a m (sa+k)):=by
 have ms:m.size=na-k+n:=by
  have:=g.1.length_eq;simp at this;omega
 have hb:sa+k+m.size<=a.size:=by omega
 have cat:(a.toList.drop (sa+k)).take m.size=(a.extract (sa+k) (sa+na)).toList++(a.extract (sa+na) (sa+na+n)).toList:=by
  rw[Xb,Xb,ms,show na-k=sa+na-(sa+k) by omega,List.take_add,List.drop_drop,show sa+k+(sa+na-(sa+k))=sa+na by omega,show sa+na+n-(sa+na)=n by omega]
 refine⟨wri_perm hb (by rw[cat];exact g.1),?_,λq hq=>by rw[QP hb,if_neg (by omega)]⟩;have mid:∀z,z∈m.toList->R rk a (sa+na)<=rk z/\rk z<=R rk a (sa+na-1):=λz hz'=>by
  have:=g.1.mem_iff.mp hz';rcases List.mem_append.mp this with h|h
  ·rw[Xb] at h;obtain⟨q,q1,q2,q3⟩:=Uj (rk:=rk) h;rw[←q3];have a1:=l2 (k+q) (by omega) (by omega);rw[show sa+(k+q)=sa+k+q by omega] at a1;exact⟨a1,s1 _ _ (by omega) (by omega) (by omega)⟩
  ·rw[Xb] at h;obtain⟨q,q1,q2,q3⟩:=Uj (rk:=rk) h;rw[←q3];exact⟨s2 _ _ (by omega) (by omega) (by omega),r1 q (by omega)⟩
 have rmid:∀q,sa+k<=q->q<sa+k+m.size->R rk (wri a m (sa+k)) q=R rk m (q-(sa+k)):=λq h1 h2=>by
  unfold R;rw[QP hb,if_pos ⟨h1,h2⟩]
 have rout:∀q,q<sa+k\/sa+k+m.size<=q->R rk (wri a m (sa+k)) q=R rk a q:=λq h1=>by
  unfold R;rw[QP hb,if_neg (by omega)]
 have rm2:∀q,sa+k<=q->q<sa+k+m.size->R rk a (sa+na)<=R rk (wri a m (sa+k)) q/\R rk (wri a m (sa+k)) q<=R rk a (sa+na-1):=λq h1 h2=>by
  rw[rmid q h1 h2];obtain⟨z,z1,z2,z3,z4⟩:=YR (rk:=rk) (x:=m) (i:=q-(sa+k)) (by omega);rw[z3];exact mid z (by simpa using z2)
 have sm:=XQ g.2 0 (Nat.le_refl m.size);intro p q hp hpq hq;by_cases p1:p<sa+k
 ·rw[rout p (.inl p1)];have b1:=l1 (p-sa) (by omega);rw[show sa+(p-sa)=p by omega] at b1;by_cases q1:q<sa+k
  ·rw[rout q (.inl q1)];exact s1 p q hp hpq (by omega)
  ·by_cases q2:q<sa+k+m.size
   ·have:=(rm2 q (by omega) q2).1;omega
   ·rw[rout q (.inr (by omega))];have:=s2 (sa+na) q (Nat.le_refl _) (by omega) hq;omega
 ·by_cases p2:p<sa+k+m.size
  ·have b1:=rm2 p (by omega) p2;by_cases q2:q<sa+k+m.size
   ·rw[rmid p (by omega) p2,rmid q (by omega) q2];exact sm _ _ (by omega) (by omega) (by omega)
   ·rw[rout q (.inr (by omega))];have:=r2 (q-(sa+na)) (by omega) (by omega);rw[show sa+na+(q-(sa+na))=q by omega] at this;omega
  ·rw[rout p (.inr (by omega)),rout q (.inr (by omega))];exact s2 p q (by omega) hpq hq
theorem wpS_mat(c:Cmp prog w A E s rk U knd)(b:Base rk U xs0){st:SortSt}(o:Ok rk U knd xs0 st){i sa na nb pw pw2:Nat}{Q:Bool->SortSt->Prop}
 (p1:(pendingOf st)[i]?=some (sa,na,pw))(p2:(pendingOf st)[i+1]?=some (sa+na,nb,pw2))(na0:0<na)(nb0:0<nb)(hz:sa+na+nb<=xs0.size)(s1:Seg rk (arrOf st) sa (sa+na))(s2:Seg rk (arrOf st) (sa+na) (sa+na+nb))
 (h:∀ys g,ys.Perm (arrOf st)->Seg rk ys sa (sa+na+nb)->Out sa (sa+na+nb) (arrOf st) ys->Q true (SortSt.mk' (kindOf st) ys (((pendingOf st).setIfInBounds i (sa,na+nb,pw)).eraseIdxIfInBounds (i+1)) g (failedOf st))):wpS (model prog w) A E s (mat i) Q st:=by
 have hz2:sa+na+nb<=(arrOf st).size:=by rw[o.size];exact hz
 have ua:∀e,e∈arrOf st->U e:=λe he=>b.all _ (o.perm.mem_iff.mp he);rw[mat_eq0];refine wpS_bind (wpS_get ?_);rw[p1,p2];dsimp only;refine wpS_bind (wpS_set ?_);obtain⟨e,e1,e2,e3,e4⟩:=YR (rk:=rk) (x:=arrOf st) (i:=sa+na) (by omega);refine wpS_bind (ZP e1 ?_);have o2:kindOf (SortSt.mk' (kindOf st) (arrOf st) (((pendingOf st).setIfInBounds i (sa,na+nb,pw)).eraseIdxIfInBounds (i+1)) (gallopOf st) (failedOf st))=knd:=o.kind;refine wpS_bind (UL c o2 (ua e e2) (by omega) ua s1 na0 λk hk b1 b2=>?_);dsimp only;have l1:∀i,i<k->R rk (arrOf st) (sa+i)<=R rk (arrOf st) (sa+na):=λq hq=>by
  have:=b1 q hq;unfold Bey at this;rw[if_neg (by simp)] at this;omega
 have l2:∀i,k<=i->i<na->R rk (arrOf st) (sa+na)<=R rk (arrOf st) (sa+i):=λq hq hq2=>by
  have:=b2 q hq hq2;unfold Bey at this;rw[if_neg (by simp)] at this;omega
 by_cases hkn:na-k=0
 ·rw[if_pos (by simpa using hkn)];refine wpS_pure (h (arrOf st) (gallopOf st) (Array.Perm.refl _) (λp q hp hpq hq=>?_) λ_ _=>rfl);by_cases hq1:q<sa+na
  ·exact s1 p q hp hpq hq1
  ·by_cases hp1:p<sa+na
   ·have a1:=l1 (p-sa) (by omega);rw[show sa+(p-sa)=p by omega] at a1;have a2:=s2 (sa+na) q (Nat.le_refl _) (by omega) hq;omega
   ·exact s2 p q (by omega) hpq hq
 rw[if_neg (by simpa using hkn)];obtain⟨f,f1,f2,f3,f4⟩:=YR (rk:=rk) (x:=arrOf st) (i:=sa+k+(na-k)-1) (by omega);refine wpS_bind (ZP f1 ?_);have ef:sa+k+(na-k)-1=sa+na-1:=by omega
 rw[ef] at f3;refine wpS_bind (UL c o2 (ua f f2) (by omega) ua s2 (by omega) λn hn c1 c2=>?_);dsimp only;have r1:∀i,i<n->R rk (arrOf st) (sa+na+i)<=R rk (arrOf st) (sa+na-1):=λq hq=>by
  have:=c1 q hq;unfold Bey at this;rw[if_pos rfl] at this;omega
 have r2:∀i,n<=i->i<nb->R rk (arrOf st) (sa+na-1)<=R rk (arrOf st) (sa+na+i):=λq hq hq2=>by
  have:=c2 q hq hq2;unfold Bey at this;rw[if_pos rfl] at this;omega
 by_cases hn0:n=0
 ·rw[if_pos (by simpa using hn0)];refine wpS_pure (h (arrOf st) (gallopOf st) (Array.Perm.refl _) (λp q hp hpq hq=>?_) λ_ _=>rfl);by_cases hq1:q<sa+na
  ·exact s1 p q hp hpq hq1
  ·by_cases hp1:p<sa+na
   ·have a1:=r2 (q-(sa+na)) (by omega) (by omega);rw[show sa+na+(q-(sa+na))=q by omega] at a1;have a2:=s1 p (sa+na-1) hp (by omega) (by omega);omega
   ·exact s2 p q (by omega) hpq hq
 rw[if_neg (by simpa using hn0)];have xs:((arrOf st).extract (sa+k) (sa+na)).size=na-k:=by simp;omega
 have ys:((arrOf st).extract (sa+na) (sa+na+n)).size=n:=by simp;omega
 have ux:∀e,e∈(arrOf st).extract (sa+k) (sa+na)->U e:=λe he=>ua e (mem_ext he);have uy:∀e,e∈(arrOf st).extract (sa+na) (sa+na+n)->U e:=λe he=>ua e (mem_ext he);have sx:=srt_ext (i:=sa+k) (j:=sa+na) s1 (by omega) (Nat.le_refl _);have sy:=srt_ext (i:=sa+na) (j:=sa+na+n) s2 (by omega) (by omega);have mx:∀m,m<((arrOf st).extract (sa+na) (sa+na+n)).size->R rk ((arrOf st).extract (sa+na) (sa+na+n)) m<=R rk ((arrOf st).extract (sa+k) (sa+na)) (((arrOf st).extract (sa+k) (sa+na)).size-1):=λm hm=>by
  rw[ys] at hm;rw[xs,R_ext (by omega) (by omega),R_ext (by omega) (by omega),show sa+k+(na-k-1)=sa+na-1 by omega];exact r1 m hm
 have mn:∀m,m<((arrOf st).extract (sa+k) (sa+na)).size->R rk ((arrOf st).extract (sa+na) (sa+na+n)) 0<=R rk ((arrOf st).extract (sa+k) (sa+na)) m:=λm hm=>by
  rw[xs] at hm;rw[R_ext (by omega) (by omega),R_ext (by omega) (by omega),show sa+k+m=sa+(k+m) by omega,Nat.add_zero];exact l2 (k+m) (by omega) (by omega)
 have fin:∀m g,Good rk ((arrOf st).extract (sa+k) (sa+na)) ((arrOf st).extract (sa+na) (sa+na+n)) m->Q (failedOf st).isNone (SortSt.mk' (kindOf st) (wri (arrOf st) m (sa+k)) (((pendingOf st).setIfInBounds i (sa,na+nb,pw)).eraseIdxIfInBounds (i+1)) g (failedOf st)):=λm g gd=>by
  have:=wri_ok hz2 (by omega) hn (by omega) s1 s2 l1 l2 r1 r2 gd;have q:=h _ g this.1 this.2.1 this.2.2;rw[o.failed] at q ⊢;exact q
 by_cases hl:na-k<=n
 ·rw[if_pos hl];refine wpS_bind (wpS_mlo c ⟨ux,uy,sx,sy,mx⟩ o2 (by omega) (by omega) mn λm g gd=>?_);refine wpS_bind (wpS_modify (wpS_bind (wpS_get (wpS_pure ?_))));exact fin m g gd
 ·rw[if_neg hl];refine wpS_bind (wpS_mhi c ⟨ux,uy,sx,sy,mn⟩ o2 (by omega) (by omega) mx λm g gd=>?_);refine wpS_bind (wpS_modify (wpS_bind (wpS_get (wpS_pure ?_))));exact fin m g gd
end
end So
end
section
namespace So
open PySem PyProof.Rows
section
variable {rk:Keyed->Int}{a b:Array Keyed}
def Pd(rk:Keyed->Int)(a:Array Keyed):List (Nat×Nat×Nat)->Nat->Nat->Prop
 |[],lo,hi=>lo=hi
 |(st,n,_)::r,lo,hi=>st=lo/\0<n/\Seg rk a lo (lo+n)/\Pd rk a r (lo+n) hi
theorem Pd.app:∀{p q:List (Nat×Nat×Nat)} {lo hi:Nat},Pd rk a (p++q) lo hi->∃m,Pd rk a p lo m/\Pd rk a q m hi
 |[],q,lo,hi,h=>⟨lo,rfl,h⟩
 |(st,n,x)::r,q,lo,hi,h=>by
  obtain⟨h1,h2,h3,h4⟩:=h;obtain⟨m,h5,h6⟩:=Pd.app h4;exact⟨m,⟨h1,h2,h3,h5⟩,h6⟩
theorem Pd.join:∀{p q:List (Nat×Nat×Nat)} {lo m hi:Nat},Pd rk a p lo m->Pd rk a q m hi->Pd rk a (p++q) lo hi
 |[],q,lo,m,hi,h,g=>by
  have e:lo=m:=h;rw[e];exact g
 |(st,n,x)::r,q,lo,m,hi,h,g=>⟨h.1,h.2.1,h.2.2.1,Pd.join h.2.2.2 g⟩
theorem Pd.len:∀{p:List (Nat×Nat×Nat)} {lo hi:Nat},Pd rk a p lo hi->lo+p.length<=hi
 |[],lo,hi,h=>by
  have e:lo=hi:=h;simp[e]
 |(st,n,x)::r,lo,hi,h=>by
  have:=Pd.len h.2.2.2;have:=h.2.1;rw[List.length_cons];omega
theorem Seg.out{i j k l:Nat}(o:Out i j a b)(h:l<=i\/j<=k)(s:Seg rk a k l):Seg rk b k l:=λp q h1 h2 h3=>by
 rw[o.R (by omega),o.R (by omega)];exact s p q h1 h2 h3
theorem Pd.out:∀{p:List (Nat×Nat×Nat)} {lo hi i j:Nat},Out i j a b->hi<=i\/j<=lo->Pd rk a p lo hi->Pd rk b p lo hi
 |[],lo,hi,i,j,_,_,h=>h
 |(st,n,x)::r,lo,hi,i,j,o,c,h=>by
  have l:=Pd.len h.2.2.2;exact⟨h.1,h.2.1,h.2.2.1.out o (by omega),Pd.out o (by omega) h.2.2.2⟩
theorem at2{α:Type}:∀{l:List α} {i:Nat} {u v:α},l[i]?=some u->l[i+1]?=some v->∃p q,l=p++u::v::q/\p.length=i
 |[],i,u,v,h,_=>by simp at h
 |[x],0,u,v,_,h=>by simp at h
 |x::y::q,0,u,v,h,g=>by
  simp at h g;exact⟨[],q,by simp[h,g],rfl⟩
 |x::l,i+1,u,v,h,g=>by
  rw[List.getElem?_cons_succ] at h g;obtain⟨p,q,e,hl⟩:=at2 h g;exact⟨x::p,q,by simp[e],by simp[hl]⟩
theorem pend_merge{α:Type}(l:Array α)(p q:List α)(u v z:α)(e:l.toList=p++u::v::q):((l.setIfInBounds p.length z).eraseIdxIfInBounds (p.length+1)).toList=p++z::q:=by
 have hz:p.length+1<l.size:=by
  have:=congrArg List.length e;simp at this;omega
 have:(l.setIfInBounds p.length z).eraseIdxIfInBounds (p.length+1)=(l.setIfInBounds p.length z).eraseIdx (p.length+1) (by simpa using hz):=by
  unfold Array.eraseIdxIfInBounds;rw[dif_pos (by simpa using hz)]
 rw[this,Array.toList_eraseIdx,Array.toList_setIfInBounds,e];rw[List.set_append_right _ _ (Nat.le_refl _),Nat.sub_self,List.set_cons_zero,List.eraseIdx_append_of_length_le (by simp)];simp
theorem RV{α:Type}{l:Array α}{u:α}(h:l.back?=some u):∃p,l.toList=p++[u]:=by
 have:l.toList.getLast?=some u:=by simpa using h
 exact List.getLast?_eq_some_iff.mp this
theorem SB{α:Type}:∀(p:List α) (u:α) (f:α->α),(p++[u]).modify p.length f=p++[f u]
 |[],u,f=>rfl
 |x::p,u,f=>by
  rw[List.cons_append,List.length_cons,List.modify_succ_cons,SB p u f];rfl
theorem pend_modify{α:Type}(l:Array α)(p:List α)(u:α)(f:α->α)(e:l.toList=p++[u]):(l.modify (l.size-1) f).toList=p++[f u]:=by
 have hz:l.size=p.length+1:=by
  have:=congrArg List.length e;simpa using this
 rw[Array.toList_modify,e,hz,Nat.add_sub_cancel];exact SB p u f
end
section
variable {prog:Program}{w:World}{A:Around}{E:Value->Shared->Prop}{s:Shared}{rk:Keyed->Int}{U:Keyed->Prop}{knd:SortKind}{xs0:Array Keyed}
structure Rs(rk:Keyed->Int)(U:Keyed->Prop)(knd:SortKind)(xs0:Array Keyed)(hi:Nat)(st:SortSt):Prop where
 ok:Ok rk U knd xs0 st
 pd:Pd rk (arrOf st) (pendingOf st).toList 0 hi
theorem wpS_mrg(c:Cmp prog w A E s rk U knd)(b:Base rk U xs0){st:SortSt}{hi:Nat}(r:Rs rk U knd xs0 hi st)(hz:hi<=xs0.size){i:Nat}(h1:i+1<(pendingOf st).size){Q:Bool->SortSt->Prop}
 (h:∀st',Rs rk U knd xs0 hi st'->(pendingOf st').size+1=(pendingOf st).size->Out 0 hi (arrOf st) (arrOf st')->Q true st'):wpS (model prog w) A E s (mergeAt' i) Q st:=by
 obtain⟨⟨sa,na,pw⟩,eu⟩:∃u,(pendingOf st).toList[i]?=some u:=⟨_,List.getElem?_eq_getElem (by simpa using (show i<(pendingOf st).size by omega))⟩;obtain⟨⟨sb,nb,pw2⟩,ev⟩:∃u,(pendingOf st).toList[i+1]?=some u:=⟨_,List.getElem?_eq_getElem (by simpa using h1)⟩;obtain⟨p,q,e,el⟩:=at2 eu ev;have pd:=r.pd;rw[e] at pd;obtain⟨m,pd1,g1,g2,g3,k1,k2,k3,pd2⟩:=pd.app;subst g1 k1;have l1:=pd1.len;have l2:=pd2.len;rw[Array.getElem?_toList] at eu ev;refine wpS_mat c b r.ok eu ev g2 k2 (by omega) g3 k3 λys g py sy oy=>?_;have en:=pend_merge (pendingOf st) p q _ _ (sa,na+nb,pw) e;rw[el] at en;refine h _ ⟨⟨r.ok.kind,r.ok.failed,py.trans r.ok.perm⟩,?_⟩ ?_ λk hk=>oy k (by omega)
 ·show Pd rk ys (((pendingOf st).setIfInBounds i (sa,na+nb,pw)).eraseIdxIfInBounds (i+1)).toList 0 hi;rw[en];refine(pd1.out oy (.inl (Nat.le_refl _))).join ⟨rfl,by omega,by rw[←Nat.add_assoc];exact sy,?_⟩;rw[←Nat.add_assoc];exact pd2.out oy (.inr (Nat.le_refl _))
 ·have a1:=congrArg List.length en;have a2:=congrArg List.length e;show (((pendingOf st).setIfInBounds i (sa,na+nb,pw)).eraseIdxIfInBounds (i+1)).size+1=_;rw[Array.length_toList,List.length_append,List.length_cons] at a1;rw[Array.length_toList,List.length_append,List.length_cons,List.length_cons] at a2;omega
noncomputable def tl(z lo n:Nat):StateT SortSt Sem (ForInStep (Option Unit×Nat)):=do
 let g←get
 match (pendingOf g).back? with
 |some (s1,n1,_)=>do
  let x←forIn [0:z] ((none,()):Option Unit×Unit) λ_ _=>do
   let g←get
   match (if (pendingOf g).size>1 then (pendingOf g)[(pendingOf g).size-2]? else none) with
   |some (_,_,older)=>
    (if older<=power' z (2 * s1+n1) (2 * s1+n1+n1+n) z then pure (ForInStep.done (none,()))
     else do
      let k←mergeAt' ((pendingOf g).size-2)
      if (!k)=true then pure (ForInStep.done (some (),())) else pure (ForInStep.yield (none,())))
   |_=>pure (ForInStep.done (none,()))
  match x.fst with
  |some r=>pure (ForInStep.done (some r,lo))
  |none=>do
   modify λs=>setPending s ((pendingOf s).modify ((pendingOf s).size-1) λx=>(x.fst,x.2.fst,power' z (2 * s1+n1) (2 * s1+n1+n1+n) z))
   modify λs=>setPending s ((pendingOf s).push (lo,n,0))
   pure (ForInStep.yield (none,lo+n))
 |_=>do
  modify λs=>setPending s ((pendingOf s).push (lo,n,0))
  pure (ForInStep.yield (none,lo+n))
theorem Pd.push{a:Array Keyed}{p:List (Nat×Nat×Nat)}{lo n x:Nat}(h:Pd rk a p 0 lo)(hn:0<n)(s:Seg rk a lo (lo+n)):Pd rk a (p++[(lo,n,x)]) 0 (lo+n):=h.join ⟨rfl,hn,s,rfl⟩
theorem Rs.push{lo n:Nat}{st:SortSt}(r:Rs rk U knd xs0 lo st)(hn:0<n)(sg:Seg rk (arrOf st) lo (lo+n)):Rs rk U knd xs0 (lo+n) (setPending st ((pendingOf st).push (lo,n,0))):=by
 refine⟨⟨r.ok.kind,r.ok.failed,r.ok.perm⟩,?_⟩;show Pd rk (arrOf st) ((pendingOf st).push (lo,n,0)).toList 0 (lo+n);rw[Array.toList_push];exact r.pd.push hn sg
theorem tl_ok(c:Cmp prog w A E s rk U knd)(b:Base rk U xs0){lo n:Nat}{st:SortSt}(r:Rs rk U knd xs0 lo st)(hn:0<n)(hz:lo+n<=xs0.size)(sg:Seg rk (arrOf st) lo (lo+n)){Q:ForInStep (Option Unit×Nat)->SortSt->Prop}
 (h:∀st',Rs rk U knd xs0 (lo+n) st'->Q (.yield (none,lo+n)) st'):wpS (model prog w) A E s (tl xs0.size lo n) Q st:=by
 unfold tl;refine wpS_bind (wpS_get ?_);cases hb:(pendingOf st).back? with
 |none=>
  dsimp only;exact wpS_bind (wpS_modify (wpS_pure (h _ (r.push hn sg))))
 |some u=>
  obtain⟨s1,n1,x1⟩:=u;dsimp only;generalize power' xs0.size (2 * s1+n1) (2 * s1+n1+n1+n) xs0.size=pw;have p0:0<(pendingOf st).size:=by
   obtain⟨p,e⟩:=RV hb;have:=congrArg List.length e;simp at this;omega
  refine wpS_bind (wpS_mono (wpS_forRange (I:=λ_ x st'=>x=(none,())/\Rs rk U knd xs0 lo st'/\Seg rk (arrOf st') lo (lo+n)/\0<(pendingOf st').size) (Q:=λx st'=>x=(none,())/\Rs rk U knd xs0 lo st'/\Seg rk (arrOf st') lo (lo+n)/\0<(pendingOf st').size) ?is ?ie ⟨rfl,r,sg,p0⟩) ?ip)
  case ie=>exact λ_ _ h=>h
  case is=>
   rintro t x st' _ _ ⟨rfl,r,sg,p0⟩;refine wpS_bind (wpS_get ?_);by_cases h1:(pendingOf st').size>1
   ·rw[if_pos h1];obtain⟨⟨z1,z2,z3⟩,hz3⟩:∃u,(pendingOf st')[(pendingOf st').size-2]?=some u:=⟨_,Array.getElem?_eq_getElem (by omega)⟩;rw[hz3];dsimp only;by_cases ho:z3<=pw
    ·rw[if_pos ho];exact wpS_pure ⟨rfl,r,sg,p0⟩
    ·rw[if_neg ho];refine wpS_bind (wpS_mrg c b r (by omega) (by omega) λst2 r2 hs o2=>?_);rw[if_neg (by simp)];exact wpS_pure ⟨rfl,r2,sg.out o2 (.inr (Nat.le_refl _)),by omega⟩
   ·rw[if_neg h1];exact wpS_pure ⟨rfl,r,sg,p0⟩
  case ip=>
   rintro x st' ⟨rfl,r,sg,p0⟩;dsimp only;obtain⟨u,hu⟩:∃u,(pendingOf st').back?=some u:=⟨_,by rw[Array.back?_eq_getElem?];exact Array.getElem?_eq_getElem (by omega)⟩;obtain⟨p,e⟩:=RV hu;have e2:=pend_modify (pendingOf st') p u (λx=>(x.fst,x.2.fst,pw)) e;have r2:Rs rk U knd xs0 lo (setPending st' ((pendingOf st').modify ((pendingOf st').size-1) λx=>(x.fst,x.2.fst,pw))):=by
    refine⟨⟨r.ok.kind,r.ok.failed,r.ok.perm⟩,?_⟩;show Pd rk (arrOf st') ((pendingOf st').modify ((pendingOf st').size-1) λx=>(x.fst,x.2.fst,pw)).toList 0 lo;have pd:=r.pd;rw[e] at pd;rw[e2];obtain⟨m,pd1,pd2⟩:=pd.app;exact pd1.join pd2
   exact wpS_bind (wpS_modify (wpS_bind (wpS_modify (wpS_pure (h _ (r2.push hn sg))))))
theorem wpS_sorts(c:Cmp prog w A E s rk U knd)(b:Base rk U xs0){st:SortSt}(o:Ok rk U knd xs0 st)(hp:pendingOf st= #[])(h2:2<=xs0.size){Q:Unit->SortSt->Prop}
 (h:∀st',(arrOf st').Perm xs0->failedOf st'=none->Seg rk (arrOf st') 0 xs0.size->Q () st'):wpS (model prog w) A E s sortRuns' Q st:=by
 rw[sortRuns'_eq];refine wpS_bind (wpS_get ?_);dsimp only;rw[o.size];generalize hm:minRun' xs0.size xs0.size 0=mr;refine wpS_bind (wpS_mono (wpS_forRange (I:=λt x st'=>∃lo,x=(none,lo)/\t<=lo/\lo<=xs0.size/\Rs rk U knd xs0 lo st') (Q:=λx st'=>∃y,x=(none,y)/\Rs rk U knd xs0 xs0.size st') ?os ?oe ⟨0,rfl,Nat.le_refl _,Nat.zero_le _,o,?o0⟩) ?op)
 case o0=>
  rw[hp];exact rfl
 case oe=>
  rintro x st' ⟨lo,rfl,h3,h4,r⟩;have e:lo=xs0.size:=by omega
  subst e;exact⟨_,rfl,r⟩
 case os=>
  rintro t x st' _ ht ⟨lo,rfl,h3,h4,r⟩;dsimp only;by_cases hlo:lo>=xs0.size
  ·rw[if_pos hlo];have e:lo=xs0.size:=by omega
   subst e;exact wpS_pure ⟨_,rfl,r⟩
  rw[if_neg hlo];refine wpS_bind (wpS_run c b r.ok (by omega) (by omega) λm ys m1 m2 py sy oy=>?_);dsimp only;have r2:Rs rk U knd xs0 lo (setArr st' ys):=⟨r.ok.set py,r.pd.out oy (.inl (Nat.le_refl _))⟩;by_cases hmr:m<mr
  ·rw[if_pos hmr];refine wpS_bind (wpS_lift (wpAny_rule ⟨rfl,?_⟩));refine wpS_bind (wpS_bin c b r2.ok (by omega) (by omega) sy λzs pz sz oz=>?_);rw[if_neg (by simp)];have r3:Rs rk U knd xs0 lo (setArr (setArr st' ys) zs):=⟨r2.ok.set pz,r2.pd.out oz (.inl (Nat.le_refl _))⟩;refine Eq.mpr (congrArg (λT=>wpS (model prog w) A E s T _ _) (?e3:_=tl xs0.size lo (min (xs0.size-lo) mr))) ?_
   ·unfold tl;congr 1
    funext g;cases (pendingOf g).back? with
    |none=>rfl
    |some u=>
     dsimp only;congr 1
     funext ⟨x1,x2⟩;cases x1<;>rfl
   exact tl_ok c b r3 (by omega) (by omega) sz λst3 r4=>⟨_,rfl,by omega,by omega,r4⟩
  ·rw[if_neg hmr];refine Eq.mpr (congrArg (λT=>wpS (model prog w) A E s T _ _) (?e2:_=tl xs0.size lo m)) ?_
   ·unfold tl;congr 1
    funext g;cases (pendingOf g).back? with
    |none=>rfl
    |some u=>
     dsimp only;congr 1
     funext ⟨x1,x2⟩;cases x1<;>rfl
   exact tl_ok c b r2 (by omega) (by omega) sy λst3 r4=>⟨_,rfl,by omega,by omega,r4⟩
 case op=>
  rintro x st' ⟨y,rfl,r⟩;dsimp only;have l0:=r.pd.len;rw[Nat.zero_add,Array.length_toList] at l0;refine wpS_bind (wpS_mono (wpS_forRange (I:=λt x st'=>x=(none,())/\Rs rk U knd xs0 xs0.size st'/\(pendingOf st').size+t<=xs0.size) (Q:=λx st'=>x=(none,())/\Rs rk U knd xs0 xs0.size st'/\(pendingOf st').size<=1) ?fs ?fe ⟨rfl,r,l0⟩) ?fp)
  case fe=>
   rintro x st' ⟨rfl,r,l⟩;exact⟨rfl,r,by omega⟩
  case fs=>
   rintro t x st' _ ht ⟨rfl,r,l⟩;refine wpS_bind (wpS_get ?_);by_cases h1:(pendingOf st').size<=1
   ·rw[if_pos h1];exact wpS_pure ⟨rfl,r,h1⟩
   ·rw[if_neg h1];refine wpS_bind (wpS_mrg c b r (Nat.le_refl _) ?_ λst2 r2 hs _=>?_)
    ·generalize Option.any _ _=bb;cases bb<;>simp<;>omega
    ·rw[if_neg (by simp)];exact wpS_pure ⟨rfl,r2,by omega⟩
  case fp=>
   rintro x st' ⟨rfl,r,l⟩;dsimp only;refine wpS_pure (h _ r.ok.perm r.ok.failed ?_);have pd:=r.pd;have ll:(pendingOf st').toList.length<=1:=by rw[Array.length_toList];exact l
   generalize (pendingOf st').toList=p at pd ll
   match p,pd,ll with
   |[],pd,_=>
    have e:0=xs0.size:=pd;omega
   |[(u,n,x)],pd,_=>
    obtain⟨_,_,q,e⟩:=pd;have e':0+n=xs0.size:=e;rw[e'] at q;exact q
end
end So
end
section
namespace So
open PySem PySem.Spec PyProof.Rows L2
structure Tr where
 ad:Addr
 tk:Int
 no:Int
 nm:Str
section
variable {prog:Program}{w:World}{A:Around}{E:Value->Shared->Prop}{s:Shared}
noncomputable def trk(r:Tr):Int:=r.tk * 64+r.no
noncomputable def rkT(rs:List Tr)(p:Keyed):Int:=match p.1 with
 | .ref a=>((rs.find? λr=>r.ad==a).map trk).getD 0
 |_=>0
def UT(rs:List Tr)(p:Keyed):Prop:=∃r∈rs,p=(.ref r.ad,.ref r.ad)
structure TrOk(h:Heap)(rs:List Tr):Prop where
 at_:∀r∈rs,∃t n u e o,h.get? r.ad=some o/\o.cls= .type "tuple"/\o.data= .seq #[.int r.tk t,.int r.no n,.str r.nm u] e
 lo:∀r∈rs,0<=r.no/\r.no<64
 nd:(rs.map trk).Nodup
theorem TrOk.find{h:Heap}{rs:List Tr}(T:TrOk h rs){r:Tr}(hr:r∈rs):rs.find? (λx=>x.ad==r.ad)=some r:=by
 cases e:rs.find? (λx=>x.ad==r.ad) with
 |none=>
  have:=List.find?_eq_none.mp e r hr;simp at this
 |some x=>
  have hx:=List.mem_of_find?_eq_some e;have ea:x.ad=r.ad:=by simpa using List.find?_some e
  obtain⟨t,n,u,e1,o,h1,h2,h3⟩:=T.at_ r hr;obtain⟨t',n',u',e1',o',h1',h2',h3'⟩:=T.at_ x hx;rw[ea,h1] at h1';cases h1';rw[h3] at h3';have et:trk x=trk r:=by
   unfold trk;injection h3' with h4 h5
   have:=congrArg Array.toList h4;simp at this;rw[this.1.1,this.2.1.1]
  obtain⟨i,hi,rfl⟩:=List.mem_iff_getElem.mp hx;obtain⟨j,hj,rfl⟩:=List.mem_iff_getElem.mp hr;have ij:i=j:=(List.getElem_inj (h₀:=by simpa using hi) (h₁:=by simpa using hj) T.nd).mp (by simpa using et);subst ij;rfl
theorem TrOk.rk{h:Heap}{rs:List Tr}(T:TrOk h rs){r:Tr}(hr:r∈rs)(v:Value):rkT rs (.ref r.ad,v)=trk r:=by
 unfold rkT;dsimp only;rw[T.find hr];rfl
theorem cmpT{rs:List Tr}(T:TrOk s.heap rs):Cmp prog w A E s (rkT rs) (UT rs) (tuples' true):=by
 rintro x y st Q ⟨r,hr,rfl⟩ ⟨q,hq,rfl⟩ hk h;rw[T.rk hr,T.rk hq] at h;rw[lt'_eq];refine wpS_bind (wpS_get ?_);rw[hk];obtain⟨t,n,u,e1,o,h1,h2,h3⟩:=T.at_ r hr;obtain⟨t',n',u',e1',o',h1',h2',h3'⟩:=T.at_ q hq;obtain⟨l1,l2⟩:=T.lo r hr;obtain⟨l3,l4⟩:=T.lo q hq;have fin:∀b:Bool,(b=true↔trk r<trk q)->wpS (model prog w) A E s (match (Except.ok b:Except Value Bool) with
   | .ok b=>(pure (some b):StateT SortSt Sem (Option Bool))
   | .error e=>(do modify (λs=>SortSt.mk' (kindOf s) (arrOf s) (pendingOf s) (gallopOf s) (some e));return none)) Q st:=λb hb=>by
  have:b=decide (trk r<trk q):=by
   by_cases z:trk r<trk q
   ·rw[decide_eq_true z];exact hb.mpr z
   ·rw[decide_eq_false z];cases b with
    |false=>rfl
    |true=>exact absurd (hb.mp rfl) z
  rw[this];exact wpS_pure h
 refine wpS_bind (wpS_lift (wpAny_attempt ?_));refine W.kat_lt h1 h3 h1' h3' ?_;show W.KatLex prog w _ true _ _ [(.int r.tk t,.int q.tk t'),(.int r.no n,.int q.no n'),(.str r.nm u,.str q.nm u')] 0 s;refine W.kat_cons (wpAny_eqBool_int ?_);by_cases e:r.tk=q.tk
 ·rw[show (r.tk==q.tk)=true by simpa using e];refine W.kat_yes (W.kat_cons (wpAny_eqBool_int ?_));by_cases e':r.no=q.no
  ·have et:trk r=trk q:=by unfold trk;omega
   rw[show (r.no==q.no)=true by simpa using e'];have er:r=q:=by
    obtain⟨i,hi,rfl⟩:=List.mem_iff_getElem.mp hr;obtain⟨j,hj,rfl⟩:=List.mem_iff_getElem.mp hq;have ij:i=j:=(List.getElem_inj (h₀:=by simpa using hi) (h₁:=by simpa using hj) T.nd).mp (by simpa using et);subst ij;rfl
   subst er;refine W.kat_yes (W.kat_cons (eqBool_str ?_));rw[show (r.nm==r.nm)=true by simp];exact W.kat_yes (W.kat_nil ⟨rfl,fin _ (by simp)⟩)
  ·rw[show (r.no==q.no)=false by simpa using e'];refine W.kat_no (W.kat_one _ _ (lt_int ⟨rfl,fin _ ?_⟩));rw[decide_eq_true_iff];unfold trk;omega
 ·rw[show (r.tk==q.tk)=false by simpa using e];refine W.kat_no (oneLt_int ⟨rfl,fin _ ?_⟩);rw[decide_eq_true_iff];unfold trk;omega
end
end So
end
section
namespace So
open PySem PySem.Spec PyProof.Rows L2
theorem perm_map{α β:Type}{f:α->β}{l m:List β}(p:l.Perm m):∀rs:List α,m=rs.map f->∃rs':List α,rs'.Perm rs/\rs'.map f=l:=by
 induction p with
 |nil=>intro rs e;exact⟨rs,List.Perm.refl _,e.symm⟩
 |cons x p ih=>
  intro rs e;cases rs with
  |nil=>cases e
  |cons r rs=>
   rw[List.map_cons] at e;injection e with e1 e2
   obtain⟨rs',h1,h2⟩:=ih rs e2;exact⟨r::rs',h1.cons r,by rw[List.map_cons,h2,e1]⟩
 |swap x y l=>
  intro rs e
  match rs,e with
  |[],e=>cases e
  |[_],e=>cases e
  |r1::r2::rs,e=>
   rw[List.map_cons,List.map_cons] at e;injection e with e1 e2
   injection e2 with e2 e3
   exact⟨r2::r1::rs,List.Perm.swap _ _ _,by rw[List.map_cons,List.map_cons,e1,e2,e3]⟩
 |trans p q ih1 ih2=>
  intro rs e;obtain⟨rs1,h1,h2⟩:=ih2 rs e;obtain⟨rs2,h3,h4⟩:=ih1 rs1 h2.symm;exact⟨rs2,h3.trans h1,h4⟩
abbrev rf(r:Tr):Value:=.ref r.ad
section
variable {prog:Program}{w:World}{A:Around}{E:Value->Shared->Prop}{s:Shared}
theorem zip_self(rs:List Tr):(rs.map rf).toArray.zip (rs.map rf).toArray=(rs.map λr=>((rf r,rf r):Keyed)).toArray:=by
 apply Array.toList_inj.mp
 simp only[Array.toList_zip,List.zip_map']
theorem list_sort_T{a:Addr}{rs:List Tr}{n:Nat}{P:Fin->Shared->Prop}(ho:s.heap.get? a=some (seqObj "list" (rs.map rf).toArray n))(T:TrOk s.heap rs)(ha:∀r∈rs,r.ad≠a)(hz:rs.length<=sizeLine)
 (h:∀rs':List Tr,rs'.Perm rs->rs'.Pairwise (λx y=>trk x<=trk y)->P (.done (.ret .none)) {s with heap:=sortedHeap s.heap a (rs.map rf) (rs'.map rf).toArray}):
  wpAny (model prog w) A (Builtin.«list.sort» ⟨[.ref a],[]⟩) P E s:=by
 rw[list_sort_plain];have hL:a<s.heap.objs.size:=Heap.lt_size ho;refine wpAny_bind (listItems_at ho rfl ?_);refine wpAny_bind (listUpdate_at ho rfl ?_ (by simpa using hz) (Nat.zero_le _));obtain⟨e1,ho1⟩:∃e1,(s.heap.update a (Obj.mapSeq λ_=> #[])).get? a=some (seqObj "list" #[] e1):=⟨_,get?_update_seq ho (λ_=> #[])⟩;refine wpAny_bind (seqEpoch_at ho1 rfl ?_);refine wpAny_bind (wpAny_newTuple ?_ (by simpa using hz));refine wpAny_bind (wpAny_newList ?_ (Nat.zero_le _));refine wpAny_holding ?_;have ho6:(((s.heap.update a (Obj.mapSeq λ_=> #[])).push (seqObj "tuple" (rs.map rf).toArray 0)).push (seqObj "list" #[] 0)).get? a=some (seqObj "list" #[] e1):=by
  rw[Heap.get?_push_ne _ _ _ (by rw[size_push',Heap.size_update];exact Nat.ne_of_lt (Nat.lt_succ_of_lt hL)),Heap.get?_push_ne _ _ _ (by rw[Heap.size_update];exact Nat.ne_of_lt hL)];exact ho1
 show wpAny (model prog w) A _ P E {s with heap:=((s.heap.update a (Obj.mapSeq λ_=> #[])).push (seqObj "tuple" (rs.map rf).toArray 0)).push (seqObj "list" #[] 0)};have T6:TrOk (((s.heap.update a (Obj.mapSeq λ_=> #[])).push (seqObj "tuple" (rs.map rf).toArray 0)).push (seqObj "list" #[] 0)) rs:=by
  refine⟨λr hr=>?_,T.lo,T.nd⟩;obtain⟨t,n,u,e,o,h1,h2,h3⟩:=T.at_ r hr;refine⟨t,n,u,e,o,?_,h2,h3⟩;have hlt:=Heap.lt_size h1;rw[Heap.get?_push_ne _ _ _ (by rw[size_push',Heap.size_update];exact Nat.ne_of_lt (Nat.lt_succ_of_lt hlt)),Heap.get?_push_ne _ _ _ (by rw[Heap.size_update];exact Nat.ne_of_lt hlt),Heap.get?_update_ne _ _ _ _ (ha r hr)];exact h1
 dsimp only;have hsz:(rs.map rf).toArray.size=rs.length:=by simp
 by_cases h2:(rs.map rf).toArray.size<2
 ·rw[if_pos h2,if_pos h2];refine wpAny_bind (wpAny_pure ?_);rw[StateT.run_pure];refine wpAny_bind (wpAny_pure ?_);dsimp only;have eo:((rs.map rf).toArray.zip (rs.map rf).toArray).map (·.2)=(rs.map rf).toArray:=by
   rw[zip_self];apply Array.toList_inj.mp
   simp
  rw[eo];refine wpAny_bind (seqEpoch_at ho6 rfl ?_);refine wpAny_bind (listUpdate_at ho6 rfl ?_ (Nat.zero_le _) (by simp;omega));simp only[bne_self_eq_false,Bool.false_eq_true,if_false];refine wpAny_pure (h rs (List.Perm.refl _) ?_);rw[hsz] at h2
  match rs,h2 with
  |[],_=>exact List.Pairwise.nil
  |[_],_=>exact List.pairwise_singleton _ _
  |_::_::_,h2=>simp at h2;omega
 ·rw[if_neg h2,if_neg h2];rw[hsz] at h2;have kt:∀l:List Tr,(∀r∈l,r∈rs)->∃fs:List Value,fs.length=l.length/\(∀v∈fs,∃i t,v= .int i t)/\W.KatTups (((s.heap.update a (Obj.mapSeq λ_=> #[])).push (seqObj "tuple" (rs.map rf).toArray 0)).push (seqObj "list" #[] 0)) (l.map rf) fs:=λl=>by
   induction l with
   |nil=>exact λ_=>⟨[],rfl,λv hv=>by (cases hv),W.KatTups.nil⟩
   |cons r l ih=>
    intro hl;obtain⟨fs,f1,f2,f3⟩:=ih λx hx=>hl x (.tail _ hx);obtain⟨t,n,u,e,o,g1,g2,g3⟩:=T6.at_ r (hl r (.head _));refine⟨.int r.tk t::fs,by simp[f1],λv hv=>?_,W.KatTups.cons g1 g2 g3 rfl f3⟩;rcases List.mem_cons.mp hv with rfl|hv
    ·exact⟨_,_,rfl⟩
    ·exact f2 v hv
  obtain⟨fs,f1,f2,f3⟩:=kt rs λ_ h=>h;refine wpAny_bind (W.kat_kind (T:=.type "int") f3 (by omega) (λv hv=>?_) rfl ?_)
  ·obtain⟨i,t,rfl⟩:=f2 v hv;exact W.Looks.now
  have ek:(Value.type "int" !=Value.type "tuple")=true:=by decide
  rw[ek,zip_self];have ba:Base (rkT rs) (UT rs) (rs.map λr=>((rf r,rf r):Keyed)).toArray:=by
   refine⟨λx hx=>?_,?_⟩
   ·obtain⟨r,hr,rfl⟩:=List.mem_map.mp (List.mem_toArray.mp hx);exact⟨r,hr,rfl⟩
   ·have:((rs.map λr=>((rf r,rf r):Keyed)).map (rkT rs))=rs.map trk:=by
     rw[List.map_map];exact List.map_congr_left λr hr=>T6.rk hr _
    show ((rs.map λr=>((rf r,rf r):Keyed)).map (rkT rs)).Nodup;rw[this];exact T.nd
  refine wpAny_bind (wpAny_mono (wpS_sorts (E:=E) (cmpT T6) ba (st:=SortSt.mk' (tuples' true) (rs.map λr=>((rf r,rf r):Keyed)).toArray #[] 7 none)
   (Q:=λ_ st'=>(arrOf st').Perm (rs.map λr=>((rf r,rf r):Keyed)).toArray/\failedOf st'=none/\Seg (rkT rs) (arrOf st') 0 (rs.map λr=>((rf r,rf r):Keyed)).toArray.size)
   ⟨rfl,rfl,Array.Perm.refl _⟩ rfl (by simp;omega) λst' a1 a2 a3=>⟨a1,a2,a3⟩) ?_ λ_ _ e=>e)
  rintro⟨⟨⟩,st'⟩ s' ⟨rfl,hp,hf,hs⟩;dsimp only;obtain⟨rs',p1,p2⟩:=perm_map (f:=λr=>((rf r,rf r):Keyed)) hp.toList rs rfl;have ea:arrOf st'=(rs'.map λr=>((rf r,rf r):Keyed)).toArray:=by
   apply Array.toList_inj.mp
   exact p2.symm
  have eo:(arrOf st').map (·.2)=(rs'.map rf).toArray:=by
   rw[ea];apply Array.toList_inj.mp
   simp
  rw[eo];refine wpAny_bind (seqEpoch_at ho6 rfl ?_);refine wpAny_bind (listUpdate_at ho6 rfl ?_ (Nat.zero_le _) (by have:=p1.length_eq;simp;omega));rw[hf];simp only[bne_self_eq_false,Bool.false_eq_true,if_false];refine wpAny_pure (h rs' p1 ?_);refine List.pairwise_iff_getElem.mpr λi j hi hj hij=>?_;have lz:(rs.map λr=>((rf r,rf r):Keyed)).toArray.size=rs'.length:=by simp[p1.length_eq]
  have q:=hs i j (Nat.zero_le _) (by omega) (by omega);have rr:∀k (hk:k<rs'.length),R (rkT rs) (arrOf st') k=trk rs'[k]:=λk hk=>by
   unfold R;rw[ea];have:(rs'.map λr=>((rf r,rf r):Keyed)).toArray[k]?=some (rf rs'[k],rf rs'[k]):=by simp[hk]
   rw[this];exact T6.rk (p1.mem_iff.mp (List.getElem_mem hk)) _
  rw[rr i hi,rr j hj] at q;exact q
theorem sorted_T{l:Addr}{rs:List Tr}{Q:Value->Shared->Prop}(hl:s.heap.IsList l (rs.map rf).toArray)(T:TrOk s.heap rs)(hz:rs.length<=sizeLine)
 (h:∀rs':List Tr,rs'.Perm rs->rs'.Pairwise (λx y=>trk x<=trk y)->Q (.ref (s.heap.objs.size+1)) {s with heap:=sortedAll s.heap (rs.map rf) (rs'.map rf).toArray}):
  wpAny (model prog w) A (call (.builtin "sorted") [.ref l]) Q E s:=by
 refine Calls.call_function_entry kind_sorted plain_sorted entry_sorted (args_sorted1 _) ?_;unfold Builtin.«sorted»;refine wpAny_bind (m:=checkCount "sorted" 1 1 _) (wpAny_pure ?_);refine wpAny_bind (collect_list hl ?_ (by simpa using hz));refine wpAny_bind (wpAny_newList ?_ (by simpa using hz));have hsz:((s.heap.push (seqObj "list" #[] 0)).update s.heap.objs.size (Obj.mapSeq (·++(rs.map rf).toArray))).objs.size=s.heap.objs.size+1:=by
  rw[Heap.size_update,size_push']
 have hoL:(((s.heap.push (seqObj "list" #[] 0)).update s.heap.objs.size (Obj.mapSeq (·++(rs.map rf).toArray))).push (seqObj "list" (rs.map rf).toArray 0)).get? (s.heap.objs.size+1)=some (seqObj "list" (rs.map rf).toArray 0):=by
  rw[←hsz];exact Heap.get?_push_size _ rfl
 have keep:∀b o,s.heap.get? b=some o->(((s.heap.push (seqObj "list" #[] 0)).update s.heap.objs.size (Obj.mapSeq (·++(rs.map rf).toArray))).push (seqObj "list" (rs.map rf).toArray 0)).get? b=some o:=λb o q=>by
  have hlt:b<s.heap.objs.size:=Heap.lt_size q;rw[Heap.get?_push_ne _ _ _ (by rw[hsz];exact Nat.ne_of_lt (Nat.lt_succ_of_lt hlt)),Heap.get?_update_ne _ _ _ _ (Nat.ne_of_lt hlt),Heap.get?_push_ne _ _ _ (Nat.ne_of_lt hlt)];exact q
 show wpAny _ _ _ _ _ {s with heap:=((s.heap.push (seqObj "list" #[] 0)).update s.heap.objs.size (Obj.mapSeq (·++(rs.map rf).toArray))).push (seqObj "list" (rs.map rf).toArray 0)};rw[hsz];have T2:TrOk (((s.heap.push (seqObj "list" #[] 0)).update s.heap.objs.size (Obj.mapSeq (·++(rs.map rf).toArray))).push (seqObj "list" (rs.map rf).toArray 0)) rs:=by
  refine⟨λr hr=>?_,T.lo,T.nd⟩;obtain⟨t,n,u,e,o,h1,h2,h3⟩:=T.at_ r hr;exact⟨t,n,u,e,o,keep _ _ h1,h2,h3⟩
 refine wpAny_bind (wpAny_holding (wpAny_call_entry slot_list_sort ⟨_,hoL,rfl⟩ entry_list_sort (list_sort_T (s:={s with heap:=((s.heap.push (seqObj "list" #[] 0)).update s.heap.objs.size (Obj.mapSeq (·++(rs.map rf).toArray))).push (seqObj "list" (rs.map rf).toArray 0)}) hoL T2 (λr hr=>?_) hz λrs' a1 a2=>⟨_,rfl,?_⟩) (args_list_sort _)))
 ·obtain⟨t,n,u,e,o,h1,h2,h3⟩:=T.at_ r hr;exact Nat.ne_of_lt (Nat.lt_succ_of_lt (Heap.lt_size h1))
 ·exact wpAny_pure ⟨_,rfl,h rs' a1 a2⟩
end
section
variable {X:Cx}
def rSortedT(K:W.Frag):List V->Hp->VK->Prop:=λxs H Q=>∃(a:Addr) (rs:List Tr),xs=[.ref a]/\SqL K H a (rs.map λr=>V.ref r.ad)/\(∀r∈rs,SqT K H r.ad [.int r.tk,.int r.no,.str r.nm])/\(∀r∈rs,0<=r.no/\r.no<64)/\(rs.map trk).Nodup/\
 ∀rs':List Tr,rs'.Perm rs->rs'.Pairwise (λx y=>trk x<=trk y)->∀p,H p=none->Q (.ref p) (upd H p (.lst (rs'.map λr=>V.ref r.ad)))
theorem call_sortedT:VB X (.builtin "sorted") (rSortedT X.K):=by
 intro pins s σ H xs us Q I r h;obtain⟨a,rs,rfl,hq,hT,hlo,hnd,k⟩:=h;obtain⟨u,rfl,ru⟩:=VQ r;cases ru;obtain⟨its,rv,pl,hz⟩:=I.list hq;rw[List.length_map] at hz;have rv':∀{rs:List Tr} {us:List Value},Vals (rs.map λr=>V.ref r.ad) us->us=rs.map rf:=λ{rs}=>by
  induction rs with
  |nil=>intro us h;cases h;rfl
  |cons r rs ih=>
   intro us h;cases h with
   |cons a b=>
    rw[ih b];cases a;rfl
 have bk:∀rs:List Tr,Vals (rs.map λr=>V.ref r.ad) (rs.map rf):=λrs=>by
  induction rs with
  |nil=>exact .nil
  |cons r rs ih=>exact .cons rfl ih
 have ei:=rv' rv;subst ei;have T:TrOk s.heap rs:=by
  refine⟨λr hr=>?_,hlo,hnd⟩;obtain⟨vs,rv',⟨o,o1,o2,n,o3⟩,_⟩:=I.tuple (hT r hr);cases rv' with
  |cons r1 rv'=>
   cases rv' with
   |cons r2 rv'=>
    cases rv' with
    |cons r3 rv'=>
     cases rv';obtain⟨t,rfl⟩:=r1;obtain⟨t2,rfl⟩:=r2;obtain⟨t3,rfl⟩:=r3;exact⟨t,t2,t3,n,o,o1,o2,o3⟩
 refine sorted_T pl.isList T hz λrs' a1 a2=>?_;obtain⟨e,he⟩:=sortedAll_at s.heap (rs.map rf) (rs'.map rf).toArray;refine⟨.ref (s.heap.objs.size+1),_,I.laid (o:=.lst (rs'.map λr=>V.ref r.ad)) (t':=s.toks) (λb o q=>sortedAll_old q) (Nat.le_succ _) ⟨?_,rs'.map rf,e,bk rs',he⟩,rfl,k rs' a1 a2 _ (I.hok.fresh (Nat.le_succ _))⟩;rw[List.length_map,a1.length_eq];exact hz
end
end So
end
section
namespace Mir
section
variable {ν:Type}
noncomputable def times(goal:Int)(a:Al ν):List Int:=(List.range (cnt goal a)).map λ(i:Nat)=>a.tick+a.step.getD 0 * (i:Int)
noncomputable def one(goal n:Int):Option (Al ν)->List (Int×Int×ν)
 |none=>[]
 |some a=>(times goal a).map λt=>(t,n,a.name)
noncomputable def allR(goal:Int)(N:Nat)(f:Fn ν):List (Int×Int×ν):=(List.range N).flatMap λ(i:Nat)=>one goal i (f i)
theorem one_ring{goal n:Int}{a:Al ν}(h:a.tick<=goal)(good:∀k,a.step=some k->0<k):one goal n (some a)=(a.tick,n,a.name)::one goal n (after a):=by
 have e:=Sw h good;unfold one;dsimp only;unfold times;rw[←e,List.range_succ_eq_map,List.map_cons,List.map_cons];congr 1
 ·simp
 ·cases hs:a.step with
  |none=>
   have ea:after a=none:=by unfold after;rw[hs];rfl
   rw[ea];simp[cntO]
  |some k=>
   have ea:after a=some {a with tick:=a.tick+k}:=by unfold after;rw[hs];rfl
   rw[ea];simp only[cntO,List.map_map];apply List.map_congr_left
   intro i _;simp only[Function.comp,hs,Option.getD_some];have:a.tick+k * ((i.succ:Nat):Int)=a.tick+k+k * (i:Int):=by
    rw[Int.natCast_succ,Int.mul_add];omega
   rw[this]
theorem one_far{goal n:Int}{a:Al ν}(h:goal<a.tick):one goal n (some a)=[]:=by
 unfold one;dsimp only;unfold times cnt;rw[if_neg (by omega)];rfl
theorem flat_change{α:Type}{N i:Nat}{g h:Nat->List α}{x:α}(hi:i<N)(e:g i=x::h i)(same:∀j,j≠i->h j=g j):((List.range N).flatMap g).Perm (x::(List.range N).flatMap h):=by
 induction N with
 |zero=>omega
 |succ N ih=>
  rw[List.range_succ,List.flatMap_append,List.flatMap_append];simp only[List.flatMap_cons,List.flatMap_nil,List.append_nil];by_cases h1:i=N
  ·subst h1;have:(List.range i).flatMap h=(List.range i).flatMap g:=by
    simp only[List.flatMap_def];congr 1
    apply List.map_congr_left
    intro j hj;have:=List.mem_range.mp hj;exact same j (by omega)
   rw[this,e];exact List.perm_middle
  ·have p:=ih (by omega);rw[same N (λz=>h1 z.symm)];exact p.append_right _
theorem Runs.all{goal:Int}{N:Nat}{f g:Fn ν}{l:List (Int×Int×ν)}(x:Runs goal f l g)(gd:GoodF N f):l.Perm (allR goal N f):=by
 induction x with
 | @stop f h=>
  have:allR goal N f=[]:=by
   unfold allR;rw[List.flatMap_eq_nil_iff];intro i _;cases e:f i with
   |none=>rfl
   |some a=>exact one_far (h _ a e)
  rw[this]
 | @ring f g n a l nx r ih=>
  obtain⟨⟨h0,h1⟩,hs⟩:=gd n a nx.there;have en:((n.toNat:Nat):Int)=n:=by omega
  have p:=ih (gd.ring nx.there);refine(p.cons _).trans (List.Perm.symm ?_);refine flat_change (i:=n.toNat) (by omega) ?_ λj hj=>?_
  ·rw[en,nx.there,Ym];exact one_ring nx.due hs
  ·rw[Xi _ _ (by omega)]
def Lex(x y:Int×Int×ν):Prop:=x.1<y.1\/(x.1=y.1/\x.2.1<y.2.1)
theorem mem_all{goal:Int}{N:Nat}{f:Fn ν}{r:Int×Int×ν}(gd:GoodF N f)(h:r∈allR goal N f):(0<=r.2.1/\r.2.1<N)/\∃a,f r.2.1=some a/\r.2.2=a.name/\a.tick<=r.1/\r.1<=goal:=by
 obtain⟨i,hi,hr⟩:=List.mem_flatMap.mp h;have hi':=List.mem_range.mp hi;cases e:f i with
 |none=>rw[e] at hr;cases hr
 |some a=>
  rw[e] at hr;obtain⟨t,ht,rfl⟩:=List.mem_map.mp hr;obtain⟨j,hj,rfl⟩:=List.mem_map.mp ht;have hj':=List.mem_range.mp hj;refine⟨⟨by show (0:Int)<=i;omega,by show (i:Int)<N;omega⟩,a,e,rfl,?_⟩;have gs:=(gd _ a e).2;unfold cnt at hj';by_cases hd:a.tick<=goal
  ·rw[if_pos hd] at hj';cases hs:a.step with
   |none=>
    simp only[Option.getD_none,Int.zero_mul,Int.add_zero];exact⟨Int.le_refl _,hd⟩
   |some k=>
    rw[hs] at hj';have hk:=gs k hs;simp only[Option.getD_some] at hj' ⊢;have h1:0<=k * (j:Int):=Int.mul_nonneg (by omega) (by omega);have h2:(j:Int)<=(goal-a.tick)/k:=by omega
    have h3:k * (j:Int)<=k * ((goal-a.tick)/k):=Int.mul_le_mul_of_nonneg_left h2 (by omega);have h4:=Int.mul_ediv_self_le (x:=goal-a.tick) (k:=k) (by omega);omega
  ·rw[if_neg hd] at hj';omega
theorem Runs.lex{goal:Int}{N:Nat}{f g:Fn ν}{l:List (Int×Int×ν)}(x:Runs goal f l g)(gd:GoodF N f):l.Pairwise Lex:=by
 induction x with
 |stop _=>exact List.Pairwise.nil
 | @ring f g n a l nx r ih=>
  have gd':=gd.ring nx.there;refine List.Pairwise.cons (λy hy=>?_) (ih gd');obtain⟨_,b,h1,_,h2,_⟩:=mem_all gd' ((r.all gd').mem_iff.mp hy);by_cases e:y.2.1=n
  ·rw[e,Ym] at h1;unfold after at h1;cases hs:a.step with
   |none=>rw[hs] at h1;cases h1
   |some k=>
    rw[hs] at h1;cases h1;have:=(gd n a nx.there).2 k hs;left
    show a.tick<y.1;simp only at h2;omega
  ·rw[Xi _ _ e] at h1;have:=nx.first _ _ h1;unfold Ahead at this;show a.tick<y.1\/(a.tick=y.1/\n<y.2.1);omega
theorem Runs.len{goal:Int}{N:Nat}{f g:Fn ν}{l:List (Int×Int×ν)}(x:Runs goal f l g)(gd:GoodF N f):l.length=muF goal N f:=by
 induction x with
 | @stop f h=>
  unfold muF;have:∀n:Nat,((List.range n).map λ(i:Nat)=>cntO goal (f (i:Int))).sum=0:=λn=>by
   induction n with
   |zero=>rfl
   |succ n ih=>
    rw[List.range_succ,List.map_append,List.sum_append,ih];simp only[List.map_cons,List.map_nil,List.sum_cons,List.sum_nil];cases e:f n with
    |none=>rfl
    |some a=>
     unfold cntO cnt;dsimp only;rw[if_neg (by have:=h _ a e;omega)];rfl
  rw[this];rfl
 |ring nx r ih=>
  have:=Uz gd nx;rw[List.length_cons,ih (gd.ring nx.there)];exact this
theorem lex_eq{l m:List (Int×Int×ν)}(p:l.Perm m)(h1:m.Pairwise Lex)(h2:l.Pairwise λx y=> ¬Lex y x):l=m:=by
 refine List.Perm.eq_of_pairwise (le:=λx y=> ¬Lex y x) (λa b ha hb n1 n2=>?_) h2 (h1.imp λ{x y} h z=>?_) p
 ·have ha':=p.mem_iff.mp ha;obtain⟨i,hi,rfl⟩:=List.mem_iff_getElem.mp ha';obtain⟨j,hj,rfl⟩:=List.mem_iff_getElem.mp hb;rcases Nat.lt_trichotomy i j with h|h|h
  ·exact absurd (List.pairwise_iff_getElem.mp h1 i j hi hj h) n2
  ·subst h;rfl
  ·exact absurd (List.pairwise_iff_getElem.mp h1 j i hj hi h) n1
 ·unfold Lex at h z;omega
end
end Mir
end
section
namespace Mir
section
variable {ν:Type}
theorem least{f:Fn ν}:∀M:Nat,(∃n a,f n=some a/\0<=n/\n<M)->∃n a,f n=some a/\∀m b,f m=some b->0<=m->m<M->Ahead a.tick n b.tick m
 |0,⟨n,a,_,h1,h2⟩=>by omega
 |M+1,⟨n,a,e,h1,h2⟩=>by
  by_cases h:∃n a,f n=some a/\0<=n/\n<(M:Int)
  ·obtain⟨k,c,e1,h3⟩:=least M h;cases eM:f M with
   |none=>
    refine⟨k,c,e1,λm b e2 m0 m1=>?_⟩;by_cases z:m=M
    ·rw[z,eM] at e2;cases e2
    ·exact h3 m b e2 m0 (by omega)
   |some d=>
    rcases Ahead.total c.tick k d.tick M with t|t
    ·refine⟨k,c,e1,λm b e2 m0 m1=>?_⟩;by_cases z:m=M
     ·rw[z,eM] at e2;cases e2;rw[z];exact t
     ·exact h3 m b e2 m0 (by omega)
    ·refine⟨M,d,eM,λm b e2 m0 m1=>?_⟩;by_cases z:m=M
     ·rw[z,eM] at e2;cases e2;rw[z];exact .refl _ _
     ·exact t.trans (h3 m b e2 m0 (by omega))
  ·have en:n=M:=Int.le_antisymm (by omega) (Int.not_lt.mp λz=>h ⟨n,a,e,h1,z⟩);refine⟨n,a,e,λm b e2 m0 m1=>?_⟩;have em:m=M:=Int.le_antisymm (by omega) (Int.not_lt.mp λz=>h ⟨m,b,e2,m0,z⟩);rw[en,←em] at e;rw[e] at e2;cases e2;rw[en,em];exact .refl _ _
theorem runs_exist{goal:Int}{N:Nat}:∀(k:Nat) (f:Fn ν),GoodF N f->muF goal N f=k->∃l g,Runs goal f l g:=by
 intro k;induction k with
 |zero=>
  intro f gd hk;refine⟨[],f,.stop λn a e=>Int.not_le.mp λhd=>?_⟩;obtain⟨n',a',e1,h1⟩:=least N ⟨n,a,e,(gd n a e).1⟩;have nx:Next goal f n' a':=⟨e1,by
   have:=h1 n a e (gd n a e).1.1 (gd n a e).1.2;unfold Ahead at this;omega,λm b e2=>h1 m b e2 (gd m b e2).1.1 (gd m b e2).1.2⟩
  have:=Uz gd nx;omega
 |succ k ih=>
  intro f gd hk;by_cases h:∃n a,f n=some a/\a.tick<=goal
  ·obtain⟨n,a,e,hd⟩:=h;obtain⟨n',a',e1,h1⟩:=least N ⟨n,a,e,(gd n a e).1⟩;have nx:Next goal f n' a':=⟨e1,by
    have:=h1 n a e (gd n a e).1.1 (gd n a e).1.2;unfold Ahead at this;omega,λm b e2=>h1 m b e2 (gd m b e2).1.1 (gd m b e2).1.2⟩
   have mr:=Uz gd nx;obtain⟨l,g,r⟩:=ih _ (gd.ring e1) (by omega);exact⟨_,g,.ring nx r⟩
  ·exact⟨[],f,.stop λn a e=>Int.not_le.mp λhd=>h ⟨n,a,e,hd⟩⟩
theorem SH{α β:Type}{h:α->List β}{p:α->Bool}:∀l:List α,(∀x∈l,p x=false->h x=[])->(l.filter p).flatMap h=l.flatMap h
 |[],_=>rfl
 |x::l,e=>by
  have ih:=SH l λy hy=>e y (.tail _ hy);rw[List.filter_cons];cases hp:p x with
  |true=>simp[ih]
  |false=>simp[ih,e x (.head _) hp]
theorem flat_nums{goal:Int}{N:Nat}{f:Fn ν}{out:List Int}(h1:out.Pairwise (·<·))(h2:∀x,x∈out↔(f x).isSome=true)(gd:GoodF N f):(out.flatMap λx=>one goal x (f x)).Perm (allR goal N f):=by
 have e:allR goal N f=((List.range N).map λ(i:Nat)=>(i:Int)).flatMap λx=>one goal x (f x):=by
  unfold allR;rw[List.flatMap_map]
 rw[e,←SH (p:=λx=>(f x).isSome) ((List.range N).map λ(i:Nat)=>(i:Int))]
 ·refine List.Perm.flatMap_right _ ?_;refine(List.perm_ext_iff_of_nodup (h1.imp λh=>Int.ne_of_lt h) ?_).mpr λx=>?_
  ·refine List.Pairwise.filter _ (List.pairwise_map.mpr (List.nodup_range.imp λ{x y} h z=>h ?_));omega
  ·rw[h2,List.mem_filter];constructor
   ·intro hs;obtain⟨a,ea⟩:=Option.isSome_iff_exists.mp hs;have:=(gd x a ea).1;exact⟨List.mem_map.mpr ⟨x.toNat,List.mem_range.mpr (by omega),by omega⟩,hs⟩
   ·exact λh=>h.2
 ·intro x _ hx;cases e:f x with
  |none=>rfl
  |some a=>rw[e] at hx;cases hx
end
end Mir
end
section
namespace Tk
open PySem L2 Mir Rk Tb
open PyProof.Rows (boot_sorted boot_min boot_enumerate boot_isinstance boot_sum boot_max)
variable {P:Program}{w:World}{K:W.Frag}{mg:Str->Option Value}{base:Heap}{a:Ad}
def spUntil(c:Cl):Sp:=λvs H Q _=>∃(H0:Hp) (p:Addr) (v:Vw) (k goal:Int) (al:Al Str),vs=[.ref p,.int k,.int goal]/\BookAt c H0 H p v/\v.wait k=some al/\Lg k/\cnt goal al<=1000000/\(∀s,al.step=some s->0<s)/\
 ∀(H' H1:Hp) (lr:Addr),Same H0 H1->RingsAt H1 lr (one goal k (some al))->BookAt c H1 H' p v->Q (.ref lr) H'
theorem sc_rings_until:FnScope ["book","number","end","name","step","tick","rings"] ["book","number","end"] (Zd YU):=Zu
theorem BookAt.namesAt{c:Cl}{H0 H:Hp}{p:Addr}{v:Vw}{k:Int}{al:Al Str}(b:BookAt c H0 H p v)(h:v.wait k=some al):∃dx r x y n1 n2 n3 n4,H p=some (.ins c.Book dx (SK r x y n1 n2 n3 n4))/\DGet H n1 (.int k) (some (.str al.name))/\DGet H n2 (.int k) (some (XG al.step)):=by
 obtain⟨A,sl,B,rfl,b,ok,e1,e2,e3,e4⟩:=b;rw[←e3] at h;obtain⟨h1,h2,_⟩:=alarm_some.mp h;have g1:=b.getN k;have g2:=b.getSt k;rw[h1] at g1;rw[h2] at g2;exact⟨_,_,_,_,_,_,_,_,b.book,g1,g2⟩
set_option maxHeartbeats 1000000 in
theorem RD(T:Txt K mg a):FnOk P w K mg base (CXe P w) 2 a.f_rings_until a.fd_rings_until ["book","number","end"] (spUntil (clOf a)):=by
 have G_Book_due:=VL (P:=P) (w:=w) (base:=base) T;refine T.F_rings_until.okN sc_rings_until (λvs H Q E h=>?_) (λcdv A' outer s H vs Q E hr h=>?_)
 ·obtain⟨H0,p,v,k,goal,al,rfl,_⟩:=h;rfl
 ·obtain⟨H0,p,v,k,goal,al,rfl,b,hw,hk,hc,hs,kk⟩:=h;have hu:=YK hr;obtain⟨dx,r,x,y,n1,n2,n3,n4,hp,g1,g2⟩:=b.namesAt hw;refine⟨_,Yh,?_⟩;refine Zk (Zw (i:=3) sc_rings_until.nd rfl (Or.inl rfl) (Zr hu (Zx (pv 0) rfl) (pv 1) (λ_ _=>rfl))) ?_;refine⟨_,rfl,_,_,_,_,_,rfl,hp,T.cl_Book,T.n_Book_names,rfl,_,rfl,_,_,rfl,g1,?_⟩;refine Zk (Zw (i:=4) sc_rings_until.nd rfl (Or.inl rfl) (Zr hu (Zx (pv 0) rfl) (pv 1) (λ_ _=>rfl))) ?_;refine⟨_,rfl,_,_,_,_,_,rfl,hp,T.cl_Book,T.n_Book_steps,rfl,_,rfl,_,_,rfl,g2,?_⟩;refine Zk (Zw (i:=5) sc_rings_until.nd rfl (Or.inl rfl) (Yx (pv 0) T.cl_Book T.m_Book_due G_Book_due (hr.mono (by decide)) T.B_Book_due .nil ZB (Za (pv 1) Ze))) ?_;refine⟨_,rfl,p,dx,_,rfl,hp,rfl,_,rfl,H0,p,v,k,rfl,b,hk,(λz=>by rw[hw] at z;cases z),λal' e=>?_⟩;rw[hw] at e;cases e;refine Zk (Zw (i:=6) sc_rings_until.nd rfl (Or.inl rfl) (YN Ze)) ?_;refine⟨by decide,λlr hlr=>?_⟩;have b1:=b.out (o:=.lst []) (.inl hlr);have hlr0:=b.same.free hlr;refine Zk (Tx PassesOwn.never (Zq Qp (pv 5) (pv 2) (Zz _)) Yh) ?_;refine⟨λm σ Hi=>∃(H0i:Hp) (bb:Al Str) (dn:List (Int×Int×Str)),σ=[some (.ref p),some (.int k),some (.int goal),some (.str al.name),some (XG al.step),some (.int bb.tick),some (.ref lr)]/\Same H0 H0i/\BookAt (clOf a) H0i Hi p v/\RingsAt H0i lr dn/\bb.name=al.name/\bb.step=al.step/\dn++one goal k (some bb)=one goal k (some al)/\dn.length+cnt goal bb<=1000000/\m=cnt goal bb,
   ⟨_,upd H0 lr (.lst []),al,[],rfl,Same.upd hlr0,b1,⟨[],rfl,Zb,λ_ h=>by cases h⟩,rfl,rfl,rfl,by simpa using hc,rfl⟩,?_⟩
  rintro m σ Hi ⟨H0i,bb,dn,rfl,sm,bi,rg,en,es,eo,hl,rfl⟩;refine⟨_,rfl,_,rfl,_,_,rfl,rfl,_,rfl,ite2 (λc=>?_) (λc=>?_)⟩
  ·have hd:bb.tick<=goal:=of_decide_eq_true c;have or:=one_ring (n:=k) hd (λs e=>hs s (by rw[←es];exact e));have ca:=Sw hd (λs e=>hs s (by rw[←es];exact e));obtain⟨qs,eq,hql,hqt⟩:=rg;have hql':=bi.same _ _ hql;have lq:qs.length=dn.length:=by rw[←eq,List.length_map]
   refine⟨λσ' H'=>∃(H0i:Hp) (b2:Al Str) (dn:List (Int×Int×Str)),σ'=[some (.ref p),some (.int k),some (.int goal),some (.str al.name),some (XG al.step),some (.int b2.tick),some (.ref lr)]/\Same H0 H0i/\BookAt (clOf a) H0i H' p v/\RingsAt H0i lr dn/\b2.name=al.name/\b2.step=al.step/\dn++one goal k (some b2)=one goal k (some al)/\dn.length+cnt goal b2<=1000000/\cnt goal b2<cnt goal bb,
    λσ' H' ⟨h0,b2,d2,z1,z2,z3,z4,z5,z6,z7,z8,z9⟩=>⟨_,z9,h0,b2,d2,z1,z2,z3,z4,z5,z6,z7,z8,rfl⟩,?_⟩
   refine Zk (ZH (VW F.plainAttrs_list F.slot_list_append F.type_list_append Ua (pv 6) (Za (Yv (Za (pv 5) (Za (pv 1) (Za (pv 3) Ze)))) Ze))) ?_;refine⟨_,rfl,.inl ⟨rfl,_,SqL.of hql'⟩,_,rfl,_,rfl,_,rfl,(by show 3<=sizeLine;decide),λtp htp=>?_⟩;have ntl:lr≠tp:=λz=>by rw[←z,hql'] at htp;cases htp
   have htp0:=bi.same.free htp;refine⟨_,_,_,rfl,rfl,by rw[Zc ntl];exact hql',(by rw[List.length_map];exact big1m (by omega)),?_⟩;have b2:=(bi.out (o:=.tup (Xl (bb.tick,k,al.name))) (.inl htp)).out (x:=lr) (o:=.lst ((qs.map λq=>V.ref q.1)++[.ref tp])) (.inr ⟨_,by rw[Zc ntl];exact hql⟩);have r2:RingsAt (upd (upd H0i tp (.tup (Xl (bb.tick,k,al.name)))) lr (.lst ((qs.map λq=>V.ref q.1)++[.ref tp]))) lr (dn++[(bb.tick,k,al.name)]):=eq▸RingsAt.snoc (r:=(bb.tick,k,al.name)) hql hqt htp0;have s2:Same H0 (upd (upd H0i tp (.tup (Xl (bb.tick,k,al.name)))) lr (.lst ((qs.map λq=>V.ref q.1)++[.ref tp]))):=λz o e=>by
    rw[Zc λz'=>by rw[z',hlr0] at e;cases e];exact(sm.trans (Same.upd htp0)) z o e
   rw[en] at or;refine Zk (ZG (Zq XJ (pv 4) ZK (Zz _)) (Zf ps_break) Zv) ?_;cases hst:al.step with
   |none=>
    refine⟨_,rfl,rfl,_,rfl,iteT ?_⟩;have ea:after bb=none:=by unfold after;rw[es,hst];rfl
    rw[ea] at or;refine Yo (Zn (pv 6)) ⟨_,rfl,kk _ _ lr s2 ?_ b2⟩;rw[←eo,or];exact r2
   |some sp=>
    refine⟨_,rfl,rfl,_,rfl,iteF ?_⟩;refine Yo (Zw (i:=5) sc_rings_until.nd rfl (Or.inl rfl) (Zp ZZ (pv 5) (pv 4))) ?_;have ea:after bb=some {bb with tick:=bb.tick+sp}:=by unfold after;rw[es,hst];rfl
    rw[ea] at or ca;have ca':cnt goal {bb with tick:=bb.tick+sp}+1=cnt goal bb:=ca;refine⟨_,rfl,_,rfl,_,_,rfl,rfl,_,{bb with tick:=bb.tick+sp},_,rfl,s2,b2,r2,en,es.trans hst,?_,by rw[List.length_append,List.length_singleton];omega,by omega⟩;rw[List.append_assoc,List.singleton_append,←or];exact eo
  ·have hd:goal<bb.tick:=Int.not_le.mp λz=>c (decide_eq_true z);rw[one_far hd,List.append_nil] at eo;refine Yo (Zn (pv 6)) ⟨_,rfl,kk _ _ lr sm ?_ bi⟩;rw[←eo];exact rg
theorem Pe{H0 H:Hp}{lf:Addr}{L:List (Int×Int×Str)}{Q:VK}(s0:Same H0 H)(no:∀x∈L,0<=x.2.1/\x.2.1<64)(nd:(L.map λ(x:Int×Int×Str)=>x.1 * 64+x.2.1).Nodup)(hf:RingsAt H0 lf L)
 (kk:∀(p:Addr) (o:HO) (rs:List (Int×Int×Str)),H p=none->RingsAt (upd H0 p o) p rs->rs.Perm L->rs.Pairwise (λx y=> ¬Lex y x)->Q (.ref p) (upd H p o)):So.rSortedT K [.ref lf] H Q:=by
 obtain⟨qs,e,h,t⟩:=hf
 let f:Addr×Int×Int×Str->So.Tr:=λq=>⟨q.1,q.2.1,q.2.2.1,q.2.2.2⟩
 have hnd:((qs.map f).map So.trk).Nodup:=by
  have e1:(qs.map f).map So.trk=(qs.map (·.2)).map λ(x:Int×Int×Str)=>x.1 * 64+x.2.1:=by
   rw[List.map_map,List.map_map];rfl
  rw[e1,e];exact nd
 refine⟨lf,qs.map f,rfl,?_,λq hq=>?_,λq hq=>?_,hnd,λrs' p1 p2 p hp=>?_⟩
 ·rw[List.map_map];exact SqL.of (s0 _ _ h)
 ·obtain⟨q0,hq0,rfl⟩:=List.mem_map.mp hq;exact SqT.of (s0 _ _ (t q0 hq0))
 ·obtain⟨q0,hq0,rfl⟩:=List.mem_map.mp hq;exact no q0.2 (by rw[←e];exact List.mem_map.mpr ⟨q0,hq0,rfl⟩)
 ·let b:So.Tr->Addr×Int×Int×Str:=λx=>(x.ad,x.tk,x.no,x.nm)
  have pq:(rs'.map b).Perm qs:=by
   have:=p1.map b;rw[List.map_map] at this;have e2:(b∘f)=id:=rfl;rw[e2,List.map_id] at this;exact this
  refine kk p _ ((rs'.map b).map (·.2)) hp ⟨rs'.map b,rfl,by rw[Zb,List.map_map];rfl,λq hq=>?_⟩ ((pq.map (·.2)).trans (List.Perm.of_eq e)) ?_
  ·have tq:=t q (pq.mem_iff.mp hq);rw[Zc λz=>by rw[z,s0.free hp] at tq;cases tq];exact tq
  ·refine List.pairwise_map.mpr (List.pairwise_map.mpr (p2.imp_of_mem λ{x y} hx hy hxy z=>?_));have n1:=no (b x).2 (by rw[←e];exact List.mem_map.mpr ⟨_,pq.mem_iff.mp (List.mem_map.mpr ⟨x,hx,rfl⟩),rfl⟩);have n2:=no (b y).2 (by rw[←e];exact List.mem_map.mpr ⟨_,pq.mem_iff.mp (List.mem_map.mpr ⟨y,hy,rfl⟩),rfl⟩);have z':y.tk<x.tk\/(y.tk=x.tk/\y.no<x.no):=z;have n1':0<=x.no/\x.no<64:=n1;have n2':0<=y.no/\y.no<64:=n2;unfold So.trk at hxy;omega
theorem BookAt.good{c:Cl}{H0 H:Hp}{p:Addr}{v:Vw}(b:BookAt c H0 H p v):GoodF 63 v.wait:=by
 obtain⟨A,sl,B,rfl,b,ok,e1,e2,e3,e4⟩:=b;rw[←e3];exact ok.out.good
theorem cnt_mu{goal:Int}{N:Nat}{f:Fn Str}{k:Int}{al:Al Str}(gd:GoodF N f)(h:f k=some al):cnt goal al<=muF goal N f:=by
 obtain⟨⟨h0,h1⟩,_⟩:=gd k al h;have e:((k.toNat:Nat):Int)=k:=by omega
 unfold muF;have hm:cntO goal (f ((k.toNat:Nat):Int))∈(List.range N).map λ(i:Nat)=>cntO goal (f (i:Int)):=List.mem_map.mpr ⟨k.toNat,List.mem_range.mpr (by omega),rfl⟩;rw[e,h] at hm;generalize (List.range N).map (λ(i:Nat)=>cntO goal (f (i:Int)))=l at hm;induction l with
 |nil=>cases hm
 |cons x l ih=>
  rw[List.sum_cons];rcases List.mem_cons.mp hm with e|hm
  ·have:cnt goal al=x:=e;omega
  ·have:=ih hm;omega
def spAhead(c:Cl)(Past:Addr):Sp:=λvs H Q E=>∃(H0:Hp) (p:Addr) (v:Vw) (t:Int),vs=[.ref p,.int t]/\BookAt c H0 H p v/\Lg t/\(t<0->E (.ref Past) none H)/\(0<=t->muF (v.now+t) 63 v.wait<=1000000/\
 ∀(H' H1:Hp) (lr:Addr) (rs:List (Int×Int×Str)) (g:Fn Str),Same H0 H1->RingsAt H1 lr rs->BookAt c H1 H' p v->Runs (v.now+t) v.wait rs g->Q (.ref lr) H')
theorem sc_ahead:FnScope ["book","ticks","end","rings","number"] ["book","ticks"] (Zd UO):=Zu
theorem QD{α β:Type}{h:α->List β}{l:List α}{j:Nat}{x:α}(e:l[j]?=some x):(l.take (j+1)).flatMap h=(l.take j).flatMap h++h x:=by
 rw[List.take_add_one,e,List.flatMap_append];simp
theorem flat_len{α β:Type}{h:α->List β}(l:List α)(j:Nat):((l.take j).flatMap h).length<=(l.flatMap h).length:=by
 conv=>rhs;rw[←List.take_append_drop j l,List.flatMap_append,List.length_append]
 omega
set_option maxHeartbeats 1000000 in
theorem ok_ahead(T:Txt K mg a):FnOk P w K mg base (CXe P w) 3 a.f_ahead a.fd_ahead ["book","ticks"] (spAhead (clOf a) a.C_Past):=by
 have G_check_stretch:=VX (P:=P) (w:=w) (base:=base) T;have G_Book_time:=TD (P:=P) (w:=w) (base:=base) T;have G_Book_waiting:=Uo (P:=P) (w:=w) (base:=base) T;have G_rings_until:=RD (P:=P) (w:=w) (base:=base) T;refine T.F_ahead.okE sc_ahead (λvs H Q E h=>?_) (λcdv A' outer s H vs Q E hr h=>?_)
 ·obtain⟨H0,p,v,t,rfl,_⟩:=h;rfl
 ·obtain⟨H0,p,v,t,rfl,b,hl,k0,k1⟩:=h;refine⟨_,Yh,?_⟩;refine Zk (ZH (ZA G_check_stretch (hr.mono (by decide)) rfl T.f_check_stretch T.kp_check_stretch T.B_check_stretch .nil Uv (Za (pv 1) Ze))) ?_;refine⟨_,rfl,t,rfl,hl,k0,λht=>?_⟩;obtain⟨hmu,k1⟩:=k1 ht;have gd:=b.good;refine Zk (Zw (i:=2) sc_ahead.nd rfl (Or.inl rfl) (Zp ZZ (Yu (pv 0) T.cl_Book T.m_Book_time G_Book_time (hr.mono (by decide)) T.B_Book_time .nil ZB) (pv 1))) ?_;obtain⟨dx,r1,x1,y1,n1,n2,n3,n4,hp⟩:=b.ob;refine⟨_,rfl,p,dx,_,rfl,hp,rfl,H0,p,v,rfl,b,_,rfl,_,_,rfl,rfl,?_⟩;refine Zk (Zw (i:=3) sc_ahead.nd rfl (Or.inl rfl) (YN Ze)) ?_;refine⟨by decide,λlr hlr=>?_⟩;have b1:=b.out (o:=.lst []) (.inl hlr);have hlr0:=b.same.free hlr;refine Zk (PS.nox (Vx PassesOwn.never rfl (Ty (Yu (pv 0) T.cl_Book T.m_Book_waiting G_Book_waiting (hr.mono (by decide)) T.B_Book_waiting .nil ZB)) (Yi (i:=4) sc_ahead.nd rfl (Or.inl rfl)) (Zf (ZH (VW F.plainAttrs_list F.slot_list_extend F.type_list_extend Qu (pv 3) (Za (ZA G_rings_until (hr.mono (by decide)) rfl T.f_rings_until T.kp_rings_until T.B_rings_until .nil ZB (Za (pv 0) (Za (pv 4) (Za (pv 2) Ze)))) Ze)))))) ?_;obtain⟨dx2,r2,x2,y2,m1,m2,m3,m4,hp2⟩:=b1.ob;refine⟨_,rfl,p,dx2,_,rfl,hp2,rfl,_,p,v,rfl,b1,λH2 lw out hlw b2 ⟨no1,no2⟩=>?_⟩;have nlw:lr≠lw:=λz=>by rw[←z,Zb] at hlw;cases hlw
  have pm:=flat_nums (goal:=v.now+t) no1 no2 gd;obtain⟨l,g,rn⟩:=runs_exist _ v.wait gd rfl (goal:=v.now+t);have tot:(out.flatMap λx=>one (v.now+t) x (v.wait x)).length<=1000000:=by
   rw[pm.length_eq,←(rn.all gd).length_eq,rn.len gd];exact hmu
  have hw1:upd (upd H0 lr (.lst [])) lw (.lst (out.map V.int)) lw=some (.lst (out.map V.int)):=Zb;refine⟨lw,rfl,⟨_,SqL.of (b2.same _ _ hw1)⟩,RO (xs:=out.map V.int) (λj σ Hj=>∃H0j x4,σ=[some (.ref p),some (.int t),some (.int (v.now+t)),some (.ref lr),x4]/\Same H0 H0j/\H0j lw=some (.lst (out.map V.int))/\BookAt (clOf a) H0j Hj p v/\RingsAt H0j lr ((out.take j).flatMap λx=>one (v.now+t) x (v.wait x))) ⟨_,none,rfl,(Same.upd hlr0).trans (Same.upd hlw),Zb,b2,⟨[],rfl,by rw[Zc nlw];exact Zb,λ_ h=>by cases h⟩⟩ ?_ ?_ ?_⟩
  ·rintro j σ Hj hj ⟨H0j,x4,rfl,sm,hw,bj,rg⟩;exact SqL.of (bj.same _ _ hw)
  ·rintro j y σ Hj hy ⟨H0j,x4,rfl,sm,hw,bj,rg⟩;rw[List.getElem?_map] at hy;obtain⟨k,hk,rfl⟩:=Option.map_eq_some_iff.mp hy;obtain⟨al,hal⟩:=Option.isSome_iff_exists.mp ((no2 k).mp (List.mem_of_getElem? hk));replace hal:v.wait k=some al:=hal;have g1:=gd k al hal;have tot1:=Nat.le_trans (flat_len (h:=λx=>one (v.now+t) x (v.wait x)) out (j+1)) tot;rw[QD hk,List.length_append] at tot1;obtain⟨qs,eq,hql,hqt⟩:=id rg;have lq:=congrArg List.length eq;rw[List.length_map] at lq;refine⟨_,rfl,.inl ⟨rfl,_,SqL.of (bj.same _ _ hql)⟩,_,rfl,_,rfl,_,rfl,H0j,p,v,k,v.now+t,al,rfl,bj,hal,XM (by omega) (by omega),Nat.le_trans (cnt_mu gd hal) hmu,g1.2,λH3 H03 l3 s3 r3 b3=>?_⟩;obtain⟨qs3,eq3,hql3,hqt3⟩:=r3;have lq3:=congrArg List.length eq3;rw[List.length_map,←hal] at lq3;have hq1:H03 lr=_:=s3 _ _ hql;have b4:=b3.out (x:=lr) (o:=.lst ((qs.map λq=>V.ref q.1)++(qs3.map λq=>V.ref q.1))) (.inr ⟨_,hq1⟩);refine⟨_,_,_,_,rfl,rfl,b3.same _ _ hq1,b3.same _ _ hql3,(by rw[List.length_map,List.length_map,lq,lq3];exact Nat.le_of_lt (big1m tot1)),_,_,rfl,λz u hz=>?_,?_,b4,?_⟩
   ·rw[Zc (Zt hz hlr0)];exact s3 _ _ (sm _ _ hz)
   ·rw[Zc λz=>by rw[←z] at hlw;rw[Zb] at hlw;cases hlw];exact s3 _ _ hw
   ·rw[QD hk,hal,←eq,←eq3];exact RingsAt.cat hq1 (λq hq=>s3 _ _ (hqt q hq)) hqt3
  ·rintro σ Hj ⟨H0j,x4,rfl,sm,hw,bj,rg⟩;rw[List.length_map,List.take_length] at rg;refine Yo (Zn (ZF So.call_sortedT (by rfl) T.b_sorted boot_sorted (Za (pv 3) Ze))) ?_;have lx:=rn.lex gd;have pl:(out.flatMap λx=>one (v.now+t) x (v.wait x)).Perm l:=pm.trans (rn.all gd).symm;have no:∀x∈out.flatMap (λx=>one (v.now+t) x (v.wait x)),0<=x.2.1/\x.2.1<64:=λx hx=>by
    have:=(mem_all gd (pm.mem_iff.mp hx)).1;omega
   refine⟨_,rfl,Pe bj.same no ?_ rg λq o rs hq r' p1 p2=>?_⟩
   ·rw[(pl.map _).nodup_iff];refine List.pairwise_map.mpr (lx.imp_of_mem λ{x y} hx hy hxy=>?_);have z1:=no x (pl.mem_iff.mpr hx);have z2:=no y (pl.mem_iff.mpr hy);unfold Lex at hxy;omega
   ·have e:=lex_eq (p1.trans pl) lx p2;subst e;exact k1 _ _ q rs g (sm.trans (Same.upd (bj.same.free hq))) r' (bj.out (.inl hq)) rn
def spLaw(K:W.Frag):Sp:=λvs H Q _=>∃(l:Addr) (ns:List Int),vs=[.ref l]/\SqL K H l (ns.map V.int)/\ns.length<=63/\∀H',Q (.bl true) H'
theorem sc_law:FnScope ["_law_script","_law_slots","_law_levels","_law_book","_law_world","_law_k","_law_deed_here","_law_kept","e","_law_ticks_here","_law_first","_law_due","_law_told","_law_piece"] ["_law_script"] (Zd s_law):=Zu
theorem RingsAt.plus{H:Hp}{l b:Addr}{rs rs2:List (Int×Int×Str)}(r:RingsAt H l rs)(r2:RingsAt H b rs2):∃xs zs,H l=some (.lst xs)/\H b=some (.lst zs)/\xs.length=rs.length/\zs.length=rs2.length/\∀p,H p=none->RingsAt (upd H p (.lst (xs++zs))) p (rs++rs2):=by
 obtain⟨qs,e,hl,t⟩:=r;obtain⟨qs2,e2,hl2,t2⟩:=r2;refine⟨_,_,hl,hl2,by rw[←e];simp,by rw[←e2];simp,λp hp=>⟨qs++qs2,by rw[List.map_append,e,e2],by rw[Zb,List.map_append],λq hq=>?_⟩⟩;have tq:H q.1=some (.tup (Xl q.2)):=by
  rcases List.mem_append.mp hq with hq|hq
  ·exact t q hq
  ·exact t2 q hq
 rw[Zc λz=>by rw[z,hp] at tq;cases tq];exact tq
theorem atI_nat{α:Type}{xs:List α}{i:Nat}{x:α}(h:xs[i]?=some x):atI xs (i:Int)=some x:=by
 have hi:=(List.getElem?_eq_some_iff.mp h).1;unfold atI ixN;rw[if_pos (by omega),if_pos (by omega)];simpa using h
structure Pc(c:Cl)(H:Hp)(x:Addr)(i:Nat)(f:Fn Str)(goal T:Int)(lr:Addr)(rs:List (Int×Int×Str))(H0 Hj:Hp)(v:Vw)(t:Int)(lt:Addr)(told:List (Int×Int×Str)):Prop where
 sH:Same H H0
 bk:BookAt c H0 Hj x v
 due:RingsAt H0 lr rs
 tl:RingsAt H0 lt told
 lo:LOk i v
 rn:Runs v.now f told v.wait
 len:told.length<=4000 * i
 go:v.now+t=goal
 t0:0<=t
 t1:t<=T
 big:T<=10000000000000
 st:∀k a s,f k=some a->a.step=some s->T<=59
theorem Pc.pass{c:Cl}{H:Hp}{x:Addr}{i:Nat}{f:Fn Str}{goal T:Int}{lr:Addr}{rs:List (Int×Int×Str)}{H0 Hj:Hp}{v:Vw}{t:Int}{lt:Addr}{told:List (Int×Int×Str)}(L:Pc c H x i f goal T lr rs H0 Hj v t lt told)(hi:i<24){p:Int}(p0:0<=p)(p1:p<=t){Q:VK}{Past:Addr}
 (kk:∀(H0' H':Hp) (v':Vw) (told':List (Int×Int×Str)) (lt':Addr),Pc c H x (i+1) f goal T lr rs H0' H' v' (t-p) lt' told'->Q (.ref lt') H'):spPass c Past [.ref x,.int p] Hj (λy H2=>rCat (.ref lt) y H2 Q) E0:=by
 have nw:=L.lo.now;have t1:=L.t1;have big:=L.big;have go:=L.go;have m3:muF (v.now+p) 63 v.wait<=63 * 61:=Qs (λk b e1=>by
  obtain⟨_,w2,w3⟩:=L.lo.wait k b e1;refine cnt_few w2 p0 λs e2=>⟨(w3.st s e2).1,?_⟩;obtain⟨al,g1,_,g3⟩:=(runs_al L.rn).1 k b e1;have z:=L.st k al s g1 (by rw[←g3];exact e2);have z2:p/s<=p:=Int.ediv_le_self _ p0;omega) 63
 have mu:muF (v.now+p) 63 v.wait<=1000000:=Nat.le_trans m3 (by decide);refine⟨_,x,v,p,rfl,L.bk,XM (by omega) (by omega),λz=>absurd z (by omega),λ_=>⟨mu,λH' H1 l2 rs2 g sm hlr rat b rn=>?_⟩⟩;have lo':=(L.lo.does hi (d:=.pass p) ⟨XM (by omega) (by omega),by omega,λ_=>mu⟩ (.passOk p0 rn) (by decide+kernel) (by decide+kernel)).1;obtain⟨xs,zs,e1,e2,e3,e4,e5⟩:=(L.tl.same sm).plus rat;have l1:=L.len;have l2':rs2.length<=63 * 61:=by rw[rn.len L.lo.good];exact m3
 refine⟨lt,l2,xs,zs,rfl,rfl,b.same _ _ e1,b.same _ _ e2,Nat.le_trans (by rw[e3,e4];omega:_<=4000 * 25) (by decide),λq hq=>?_⟩;have hq1:=b.same.free hq;exact kk _ _ _ (told++rs2) q ⟨L.sH.trans (sm.trans (Same.upd hq1)),b.out (.inl hq),(L.due.same sm).same (Same.upd hq1),e5 q hq1,lo',L.rn.append rn (by show v.now<=v.now+p;omega),by rw[List.length_append];omega,by show v.now+p+(t-p)=goal;omega,by omega,by omega,L.big,L.st⟩
theorem vals_comp{σ:St}{q dw dr:Addr}{tw tr:TabA}{v:Vw}{j:Nat}{H0 H:Hp}{o:Obj}{Q:VK}(s0:Same H0 H)(w0:WAt H0 q dw dr tw tr v)(lo:LOk j v)(hσ:blk [none] σ=[none])
 (hd:∀acc ys,H acc=none->acc≠dw->(ys=[]->∀k a s,v.wait k=some a->a.step≠some s)->Q (.ref acc) (upd (upd H acc (.lst ys)) dw (.frz o (.dK (tabV tw))))):
  VN (Itv dw o (tabV tw)) [none] 0 (SW K) (tVar 0) σ (upd H dw (.frz o (.dK (tabV tw)))) Q:=by
 have w1:=w0.up s0;have lz:=(w0.lens lo).1;refine Sv (λi ys Hi=>Hi=upd H dw (.frz o (.dK (tabV tw)))/\ys.length<=i/\(ys=[]->∀p∈tw.take i,∀s,p.2.2.step≠some s)) ⟨rfl,Nat.le_refl _,λ_ p hp=>by simp at hp⟩ ?_ ?_ ?_
 ·rintro i ys Hi hi ⟨rfl,h1,_⟩;rw[UC] at hi;exact⟨Zb,Nat.lt_of_le_of_lt (by omega:_<=24) (by decide)⟩
 ·rintro i k y ys Hi N hk ⟨rfl,h1,h2⟩ kq;obtain⟨n,x,al,hi,rfl,rfl,hg,hw,hx⟩:=w1.atW hk;rw[hσ];have hx':upd H dw (.frz o (.dK (tabV tw))) x=some (.tup (alV al)):=by rw[Zc (λz=>by rw[z,w1.wts] at hx;cases hx)];exact hx
  obtain⟨nm,tk,sp⟩:=al;cases sp with
  |none=>
   refine⟨_,rfl,_,_,_,_,rfl,rfl,SqT.of hx',rfl,rfl,_,rfl,iteF (kq _ _ ⟨rfl,by omega,λz p hp s=>?_⟩)⟩;rw[List.take_add_one,hi] at hp;rcases List.mem_append.mp hp with hp|hp
   ·exact h2 z p hp s
   ·have ep:p=(n,x,⟨nm,tk,none⟩):=by simpa using hp
    subst ep;exact λz=>by cases z
  |some st=>exact⟨_,rfl,_,_,_,_,rfl,rfl,SqT.of hx',rfl,rfl,_,rfl,iteT ⟨_,rfl,kq _ _ ⟨rfl,by simp;omega,λz=>by simp at z⟩⟩⟩
 ·rintro ys Hi ⟨rfl,h1,h2⟩ acc hacc;have hpd:dw≠acc:=λz=>by rw[←z,Zb] at hacc;cases hacc
  have hp':H acc=none:=by rw[Zc hpd.symm] at hacc;exact hacc
  rw[UC,List.take_length] at h2;rw[Ur hpd];refine hd acc ys hp' hpd.symm λz k al s hk hs=>?_;rw[←w0.ew] at hk;obtain⟨x,hx⟩:=TV hk;exact h2 z _ (YQ hx) s hs
def FirstOf(f:Fn Str)(x:V):Prop:=(∀k,f k=none)/\x= .non\/∃m k al,f k=some al/\al.tick=m/\(∀k' al',f k'=some al'->m<=al'.tick)/\x= .int m
def spSoonestX(c:Cl):Sp:=λvs H Q _=>∃(H0:Hp) (p:Addr) (v:Vw),vs=[.ref p]/\BookAt c H0 H p v/\∀H' x,BookAt c H0 H' p v->FirstOf v.wait x->Q x H'
theorem Sn(T:Txt K mg a):FnOk P w K mg base (CXe P w) 3 a.f_Book_soonest a.fd_Book_soonest ["self"] (spSoonestX (clOf a)):=
 (Up T).imp λvs H Q E ⟨H0,p,v,e,b,k⟩=>⟨H0,p,v,e,b,λH' b'=>⟨λh=>k H' _ b' (.inl ⟨h,rfl⟩),λm k' al h1 h2 h3=>k H' _ b' (.inr ⟨m,k',al,h1,h2,h3,rfl⟩)⟩⟩
set_option maxHeartbeats 8000000 in
theorem ok_law(T:Txt K mg a):FnOk P w K mg base (CXe P w) 12 a.f_law a.fd_law ["_law_script"] (spLaw K):=by
 have G__law_mix:=VJ (P:=P) (w:=w) (base:=base) T;have G__law_wheels:=RE (P:=P) (w:=w) (base:=base) T;have G_Book:=Px (P:=P) (w:=w) (base:=base) T;have G__law_new:=ok__law_new (P:=P) (w:=w) (base:=base) T;have G__law_deed:=Pq (P:=P) (w:=w) (base:=base) T;have G__law_done:=Pp (P:=P) (w:=w) (base:=base) T;have G__law_asked:=Qe (P:=P) (w:=w) (base:=base) T;have G__law_is:=RF (P:=P) (w:=w) (base:=base) T;have G__law_same:=Pl (P:=P) (w:=w) (base:=base) T;have G__law_ticks:=Td (P:=P) (w:=w) (base:=base) T;have G_pass_ticks:=UZ (P:=P) (w:=w) (base:=base) T;have G_Book_soonest:=Sn (P:=P) (w:=w) (base:=base) T;have G_ahead:=ok_ahead (P:=P) (w:=w) (base:=base) T;refine T.F_law.okN sc_law (λvs H Q E h=>?_) (λcdv A' outer s H vs Q E hr h=>?_)
 ·obtain⟨l,ns,rfl,_⟩:=h;rfl
 ·obtain⟨l,ns,rfl,hl,hlen,k⟩:=h;have hu:=YK hr;refine⟨_,Yh,?_⟩;refine Zk (ps_asg (ZA G__law_wheels (hr.mono (by decide)) (by rfl) T.f__law_wheels T.kp__law_wheels T.B__law_wheels .nil ZB (Za (pv 0) (Za Zg Ze))) (Pg rfl (XH (Yi (i:=1) sc_law.nd rfl (Or.inl rfl)) (XH (Yi (i:=2) sc_law.nd rfl (Or.inl rfl)) SX)))) ?_;refine⟨_,rfl,l,ns,_,rfl,hl,λS n H1 p1 hS hn s1 hp1=>?_⟩;refine⟨_,_,rfl,SqT.of hp1,rfl,_,_,rfl,_,_,rfl,rfl,?_⟩;refine Zk (Zw (i:=3) sc_law.nd rfl (Or.inl rfl) (SY T.M_Book G_Book (hr.mono (by decide)) rfl T.c_Book T.B_Book___init__ .nil ZB (Za (pv 1) (Za (pv 2) Ze)))) ?_;refine⟨_,rfl,_,rfl,λx dx hx hdx nx=>?_⟩;have sA:Same H1 (upd (upd H1 dx (.own x)) x (.ins a.C_Book dx [])):=λb o e=>by
   rw[Zc (Zt e hx),Zc (Zt e hdx)];exact e
  have gw:TY S n:=⟨hS,by omega,by omega⟩;refine⟨H1,x,dx,S,n,rfl,XM (by omega) (by omega),XM (by omega) (by omega),sA,hx,Zb,(λz=>absurd gw z),λ_ H2 b=>⟨rfl,?_⟩⟩;replace b:BookAt (clOf a) H1 H2 x (newV S n):=by
   have e:((n:Int)).toNat=n:=Int.toNat_natCast n;rw[e] at b;exact b
  refine Zk (Zw (i:=4) sc_law.nd rfl (Or.inl rfl) (ZA G__law_new (hr.mono (by decide)) (by rfl) T.f__law_new T.kp__law_new T.B__law_new .nil ZB (Za (pv 1) (Za (pv 2) Ze)))) ?_;refine⟨_,rfl,_,rfl,S,n,rfl,λq dw dr hq hdw hdr=>?_⟩;have nqw:q≠dw:=λz=>by rw[←z,Zb] at hdw;cases hdw
  have nwr:dw≠dr:=λz=>by rw[←z,Zb] at hdr;cases hdr
  have nqr:q≠dr:=λz=>by rw[←z,Zc nqw,Zb] at hdr;cases hdr
  have hw2:H2 dw=none:=by rw[Zc nqw.symm] at hdw;exact hdw
  have hr2:H2 dr=none:=by rw[Zc nwr.symm,Zc nqr.symm] at hdr;exact hdr
  have hq1:=b.same.free hq;have hw1:=b.same.free hw2;have hr1:=b.same.free hr2;have b3:=(((b.out (o:=.dK []) (.inl hq)).out (o:=.dK []) (.inl hdw)).out (o:=.dK []) (.inl hdr)).out (x:=q) (o:=.dK (wdV (newV S n) dw dr)) (.inr ⟨.dK [],by rw[Zc nqr,Zc nqw];exact Zb⟩);have w3:WAt (upd (upd (upd (upd H1 q (.dK [])) dw (.dK [])) dr (.dK [])) q (.dK (wdV (newV S n) dw dr))) q dw dr [] [] (newV S n):=
   ⟨Zb,by rw[Zc nqw.symm,Zc nwr];exact Zb,by rw[Zc nqr.symm];exact Zb,(λp hp=>by cases hp),(λp hp=>by cases hp),nqw,nqr,nwr,List.nodup_nil,List.nodup_nil,rfl,rfl⟩
  have s3:Same H (upd (upd (upd (upd H1 q (.dK [])) dw (.dK [])) dr (.dK [])) q (.dK (wdV (newV S n) dw dr))):=λy o e=>by
   have e1:=s1 y o e;rw[Zc (Zt e1 hq1),Zc (Zt e1 hr1),Zc (Zt e1 hw1),Zc (Zt e1 hq1)];exact e1
  have hqE:=s1.free hq1;have hwE:=s1.free hw1;have hrE:=s1.free hr1;have lo0:LOk 0 (newV S n):=⟨by decide,hS,⟨Int.le_refl _,by show (0:Int)<=_;decide⟩,⟨Int.le_refl _,by show (0:Int)<=_;decide⟩,(λk a e=>by cases e),(λk a e=>by cases e)⟩;generalize upd (upd (upd (upd H1 q (.dK [])) dw (.dK [])) dr (.dK [])) q (.dK (wdV (newV S n) dw dr))=H03 at b3 w3 s3;generalize upd (upd (upd (upd H2 q (.dK [])) dw (.dK [])) dr (.dK [])) q (.dK (wdV (newV S n) dw dr))=H3 at *;refine Zk (Vx PassesOwn.never rfl (Sk rfl T.b_range (Za (Zp ZT (ZA G__law_mix (hr.mono (by decide)) (by rfl) T.f__law_mix T.kp__law_mix T.B__law_mix .nil ZB (Za (pv 0) (Za Zg Ze))) Zg) Ze)) (Yi (i:=5) sc_law.nd rfl (Or.inl rfl)) Yh) ?_;refine⟨_,rfl,l,ns,_,rfl,(s3.trans b3.same).seq hl,λm g0 g1=>?_⟩;have e3:=Int.emod_nonneg m (b:=17) (by omega);have e4:=Int.emod_lt_of_pos m (b:=17) (by omega);refine⟨_,_,rfl,rfl,(by show (0:Int)<17;decide),_,rfl,(by omega),(by omega),?_⟩;refine UU (lo:=0) (n:=(m % 17).toNat) (λi σ Hi=>∃H0i v x5 x6,σ=[some (.ref l),some (.int S),some (.int n),some (.ref x),some (.ref q),x5,x6,none,none,none,none,none,none,none]/\Same H H0i/\BookAt (clOf a) H0i Hi x v/\Wld H0i q dw dr v/\LOk i v) ⟨H03,newV S n,none,none,rfl,s3,b3,⟨[],[],w3⟩,lo0⟩ ?_ ?_
  ·rintro i σ Hi hi ⟨H0i,v,x5,x6,rfl,sH,bi,wi,lo⟩;have hi24:i<24:=by omega
   refine Zk (Zw (i:=6) sc_law.nd rfl (Or.inl rfl) (ZA G__law_deed (hr.mono (by decide)) (by rfl) T.f__law_deed T.kp__law_deed T.B__law_deed .nil ZB (Za (pv 0) (Za (Zp ZZ Zg (Zp Vh Zg (pv 5))) (Za (pv 4) Ze))))) ?_;refine⟨_,rfl,_,rfl,_,_,rfl,rfl,.inl ⟨by decide,by decide⟩,_,_,rfl,rfl,_,rfl,H0i,l,ns,_,q,dw,dr,v,i,rfl,(sH.trans bi.same).seq hl,bi.same,wi,lo,λH0a Ha td d fa htd dk=>?_⟩;have ba:=bi.fr fa;have wa:=wi.up fa.grow;have sHa:=sH.trans fa.grow;refine Yo (ZG (VO (Yf (ZA G__law_is (hr.mono (by decide)) (by rfl) T.f__law_is T.kp__law_is T.B__law_is .nil ZB (Za (ZA G__law_asked (hr.mono (by decide)) (by rfl) T.f__law_asked T.kp__law_asked T.B__law_asked .nil ZB (Za (pv 3) (Za (pv 6) Ze))) (Za (ZA G__law_done (hr.mono (by decide)) (by rfl) T.f__law_done T.kp__law_done T.B__law_done .nil ZB (Za (pv 4) (Za (pv 6) Ze))) Ze))) (λ_=>rfl))) (Zf (Zn VI)) Zv) ?_;refine⟨_,rfl,_,rfl,H0a,x,v,i,d,td,rfl,ba,lo,hi24,dk,htd,λH0b Hb r v' y sb bb db rb=>?_⟩;have wb:=wa.up sb;refine⟨_,rfl,_,rfl,H0b,q,dw,dr,v,i,d,td,rfl,bb.same,wb,lo,dk,sb _ _ htd,λH0c Hc r' v'' y' fc wc dc rc=>?_⟩;obtain⟨er,ev⟩:=db.unique dc;subst er ev;have bc:=bb.fr fc;have rb':=(rb.fr wb fc).up fc.same;have rc':=rc.up fc.same;obtain⟨lo',rok⟩:=lo.does hi24 dk db (by decide+kernel) (by decide+kernel);obtain⟨tx,h1,k1,k2⟩:=rb'.ty T;obtain⟨ty,h2,_,k3⟩:=rc'.ty T;have sHc:Same H H0c:=λz o e=>fc.keep z o (λhz=>by
    simp only[List.mem_cons,List.not_mem_nil,or_false] at hz;rcases hz with hz|hz|hz
    ·rw[hz,hqE] at e;cases e
    ·rw[hz,hwE] at e;cases e
    ·rw[hz,hrE] at e;cases e) (sb _ _ (sHa z o e))
   exact⟨y,y',retD r,tx,ty,rfl,h1,h2,k1,k2,k3,rb'.den,rc'.den,Rv rok,_,rfl,iteF ⟨H0c,v',_,_,rfl,sHc,bc,wc,lo'⟩⟩
  ·rintro σ Hi ⟨H0i,v,x5,x6,rfl,sH,bi,wi,lo⟩;have hi16:(m % 17).toNat<=16:=by omega
   generalize (m % 17).toNat=i at lo hi16;refine Zk (Zw (i:=7) sc_law.nd rfl (Or.inl rfl) ZK) ?_;refine Zk (ps_try rfl rfl sc_law.nd (j:=8) rfl rfl rfl T.c_TickError T.ct_TickError (YS (psx_expr (Ud G_ahead (hr.mono (by decide)) (by rfl) T.f_ahead T.kp_ahead T.B_ahead .nil (Za (pv 3) (Za (pe_un un_neg Zg) Ze))))) (λ_=>(Zf (Zw (i:=7) sc_law.nd rfl (Or.inl rfl) (pv 8))))) ?_;refine⟨_,rfl,_,rfl,H0i,x,v,-1,rfl,bi,XM (by decide) (by decide),λ_=>?_,λz=>absurd z (by decide)⟩;refine⟨a.C_Past,rfl,T.sb_Past_TickError,λea hea=>⟨_,rfl,?_⟩⟩;have b4:=bi.out (o:=excO ea (.ref a.C_Past)) (.inl hea);have s4:Same H0i (upd H0i ea (excO ea (.ref a.C_Past))):=Same.upd (bi.same.free hea);have w4:=wi.up s4;have sH4:=sH.trans s4;have hex:upd H0i ea (excO ea (.ref a.C_Past)) ea=some (excO ea (.ref a.C_Past)):=Zb;generalize upd H0i ea (excO ea (.ref a.C_Past))=H04 at b4 w4 sH4 hex;generalize upd Hi ea (excO ea (.ref a.C_Past))=H4 at b4;obtain⟨tw,tr,w4⟩:=w4;refine Zk (Zw (i:=9) sc_law.nd rfl (Or.inl rfl) (ZA G__law_ticks (hr.mono (by decide)) (by rfl) T.f__law_ticks T.kp__law_ticks T.B__law_ticks .nil ZB (Za (pv 0) (Za Zg (Za (pv 4) Ze))))) ?_;refine⟨_,rfl,_,rfl,H04,l,ns,_,q,dw,dr,v,i,rfl,(sH4.trans b4.same).seq hl,b4.same,⟨tw,tr,w4⟩,lo,λH05 H5 t f5 t0 t1=>?_⟩;have b5:=b4.fr f5;have w5:=w4.up f5.grow;have w5':=w5.up f5.same;refine Zk (ZG (Yf (pe_thaw (TB (te:=tVar 0) (tc:=SW K) (NB:=["_law_one"]) (fv:=[none]) (jx:=0) rfl (Va rfl rfl (by decide+kernel)) (Pf (pe_bm0 F.plainAttrs_dict F.slot_dict_values F.type_dict_values Py (Zr hu (pv 4) Zl (λ_ _=>rfl)))) rfl rfl rfl (λ_ _ _=>pifs_one (Zq Ui (ZC ZE (pv 0) Zg (λ_ _=>rfl)) ZK (Zz _))) (λ_ _ _=>pv 0))) (λ_=>rfl)) (Zf (Zw (i:=9) sc_law.nd rfl (Or.inl rfl) (Zp ZT (pv 9) Zg))) Zv) ?_;refine⟨_,rfl,_,_,rfl,w5'.gWaits,.inr (.inr (.inl ⟨rfl,.inl ⟨_,w5'.wts⟩⟩)),dw,_,rfl,rfl,w5'.wts,λvv hvv=>?_⟩;have f6:=f5.trans (Fr.new (o:=VC vv dw) f5.same hvv);have w6:=w4.up f6.grow;refine⟨vv,dw,_,rfl,Zb,(w6.up f6.same).wts,λo nf=>?_⟩;refine vals_comp f6.same w6 lo rfl λacc ys hacc hne hys=>?_;refine⟨dw,o,_,nf,Zb,?_⟩;have f7:=f6.trans (Fr.new (o:=.lst ys) f6.same hacc);have hac:upd (upd H5 vv (VC vv dw)) acc (.lst ys) acc=some (.lst ys):=Zb;have b7:=b4.fr f7;have w7:=w4.up f7.grow;rw[Sx (w7.up f7.same).wts];have sH7:=sH4.trans f7.grow;have hex7:=f7.grow _ _ hex;clear f5 b5 w5 w5' f6 w6;generalize upd (upd H5 vv (VC vv dw)) acc (.lst ys)=H7 at *;generalize upd (upd H05 vv (VC vv dw)) acc (.lst ys)=H07 at *;rcases ys with _|⟨y,ys⟩
   case' nil=>
    refine⟨false,.inl ⟨_,SqL.of hac,rfl⟩,iteF ?_⟩;have hst:∀k a s,v.wait k=some a->a.step=some s->t<=59:=λk a s e1 e2=>absurd e2 (hys rfl k a s e1);obtain⟨tt,rfl⟩:∃tt,tt=t:=⟨t,rfl⟩
   case' cons=>
    refine⟨true,.inl ⟨_,SqL.of hac,rfl⟩,iteT ?_⟩;refine⟨_,rfl,_,_,rfl,rfl,(by show (0:Int)<60;decide),?_⟩;have m0:=Int.emod_nonneg t (b:=60) (by omega);have m1:=Int.emod_lt_of_pos t (b:=60) (by omega);replace t0:0<=t % 60:=m0;replace t1:t % 60<=10000000000000:=by omega
    have hst:∀k a s,v.wait k=some a->a.step=some s->t % 60<=59:=λk a s e1 e2=>by omega
    clear m0 m1;dsimp only;generalize t % 60=tt at *
   all_goals
    have nw:=lo.now;have lz:=lo.j24;have mu:muF (v.now+tt) 63 v.wait<=1000000:=mu_few lo (λk al s e1 e2=>by
     have z:=hst k al s e1 e2;have z2:tt/s<=tt:=Int.ediv_le_self _ t0;omega) t0
    refine Zk (Zw (i:=10) sc_law.nd rfl (Or.inl rfl) (Yu (pv 3) T.cl_Book T.m_Book_soonest G_Book_soonest (hr.mono (by decide)) T.B_Book_soonest .nil ZB)) ?_;obtain⟨dx0,r0,x0,y0,u1,u2,u3,u4,hob⟩:=b7.ob;refine⟨_,rfl,_,_,_,rfl,hob,rfl,H07,x,v,rfl,b7,λH8 fx b8 hfx=>?_⟩;refine Zk (Zw (i:=11) sc_law.nd rfl (Or.inl rfl) (ZA G_ahead (hr.mono (by decide)) (by rfl) T.f_ahead T.kp_ahead T.B_ahead .nil ZB (Za (pv 3) (Za (pv 9) Ze)))) ?_;refine⟨_,rfl,_,rfl,H07,x,v,tt,rfl,b8,XM (by omega) (by omega),(λz=>absurd z (by omega)),λ_=>⟨mu,λH9 H09 lr rs g s9 r9 b9 rn=>?_⟩⟩;have w9:=w7.up s9;have hex9:=b9.same _ _ (s9 _ _ hex7);obtain⟨qs,eq,hql,hqt⟩:=id r9;refine Zk (ZG (UY (VO (Yf (ZF Xk (by rfl) T.b_isinstance boot_isinstance (Za (pv 7) (Za (Uh T.c_Past) Ze))) (λ_=>rfl))) (UY (VO (Yf (ZF UI (by rfl) T.b_isinstance boot_isinstance (Za (pv 11) (Za (Ti T.b_list PyProof.Rows.boot_list) Ze))) (λ_=>rfl))) (Ue (VO (Yf (ZA G__law_same (hr.mono (by decide)) (by rfl) T.f__law_same T.kp__law_same T.B__law_same .nil ZB (Za (pv 3) (Za (pv 4) Ze))) (λ_=>rfl)))))).pt (Zf (Zn VI)) Zv) ?_;refine⟨_,rfl,ea,a.C_Past,_,_,_,rfl,hex9,T.ec_Past,rfl,T.kt_Past_Past,_,rfl,iteF ?_⟩;refine⟨_,rfl,_,_,_,_,_,rfl,.lst (b9.same _ _ hql),rfl,TK,_,rfl,iteF ?_⟩;refine⟨_,rfl,_,rfl,H09,x,q,dw,dr,v,i,rfl,b9,⟨tw,tr,w9⟩,lo,λH010 H10 s10 b10=>⟨_,rfl,iteF ?_⟩⟩;have r10:=r9.same s10;have hqlA:=b10.same _ _ (s10 _ _ hql);refine Zk (ZG (RA (Yf (pv 11) (λ_=>rfl)) (Tw (UY (VO (Yf (ZF UI (by rfl) T.b_isinstance boot_isinstance (Za (ZC Ye (pv 11) Zg (λ_ _=>rfl)) (Za (Ti T.b_tuple PyProof.Rows.boot_tuple) Ze))) (λ_=>rfl))) (Ue (Zq op_ne (ZC ZE (ZC Ye (pv 11) Zg (λ_ _=>rfl)) Zg (λ_ _=>rfl)) (pv 10) (Zz _)))).pt)).pt (Zf (Zn VI)) Zv) ?_;rcases qs with _|⟨q0,qs⟩
    case' nil=>refine⟨_,rfl,false,.inl ⟨_,SqL.of hqlA,rfl⟩,iteF (iteF ?_)⟩
    case' cons=>
     have tq:=b10.same _ _ (s10 _ _ (hqt q0 (.head _)));have ef:V.int q0.2.1=fx:=by
      cases rn with
      |stop _=>cases eq
      | @ring _ _ nn al ll nx rr=>
       have e0:q0.2=(al.tick,nn,al.name):=by
        have:=congrArg List.head? eq;simpa using this
       rcases hfx with ⟨z,_⟩|⟨mm,kk',al',h1,h2,h3,rfl⟩
       ·have:=nx.there;rw[z nn] at this;cases this
       ·have z1:=h3 nn al nx.there;have z2:=nx.first kk' al' h1;unfold Ahead at z2;rw[e0];have:al.tick=mm:=by omega
        rw[this]
     refine⟨_,rfl,true,.inl ⟨_,SqL.of hqlA,rfl⟩,iteT ?_⟩;have at0:atI ((q0::qs).map λq=>V.ref q.1) 0=some (.ref q0.1):=atI_nat (i:=0) rfl;refine⟨_,rfl,_,_,_,_,rfl,rfl,SqL.of hqlA,at0,_,_,_,_,_,rfl,.tup tq,rfl,TK,_,rfl,iteF ?_⟩;refine⟨_,rfl,_,_,_,_,rfl,rfl,SqL.of hqlA,at0,_,_,_,_,rfl,rfl,SqT.of tq,rfl,_,rfl,?_⟩;rw[←ef];refine⟨rfl,_,rfl,?_⟩;rw[show (!decide (V.int q0.2.1=V.int q0.2.1))=false by simp];refine iteF ?_
    all_goals
     have shp:SeqAt.shaped (.list (rs.map Rx))=true:=Rv (r:=.rings rs) (lo.does (by omega) (d:=.pass tt) ⟨XM (by omega) (by omega),t1,λ_=>mu⟩ (.passOk t0 rn) (by decide+kernel) (by decide+kernel)).2;refine Zk (Zw (i:=12) sc_law.nd rfl (Or.inl rfl) (YN Ze)) ?_;refine⟨by decide,λlt hlt=>?_⟩;have P0:Pc (clOf a) H x i v.wait (v.now+tt) tt lr rs (upd H010 lt (.lst [])) (upd H10 lt (.lst [])) v tt lt []:=
      ⟨((sH7.trans s9).trans s10).trans (Same.upd (b10.same.free hlt)),b10.out (.inl hlt),r10.same (Same.upd (b10.same.free hlt)),⟨[],rfl,Zb,λ_ h=>by cases h⟩,lo,.stop (λn a e=>(lo.wait n a e).2.1),Nat.zero_le _,rfl,t0,Int.le_refl _,t1,hst⟩
     refine Zk (Vx PassesOwn.never rfl (Sk rfl T.b_range (Za (Zp ZT (ZA G__law_mix (hr.mono (by decide)) (by rfl) T.f__law_mix T.kp__law_mix T.B__law_mix .nil ZB (Za (pv 0) (Za Zg Ze))) Zg) Ze)) (Yi (i:=5) sc_law.nd rfl (Or.inl rfl)) Yh) ?_;refine⟨_,rfl,l,ns,_,rfl,(P0.sH.trans P0.bk.same).seq hl,λm2 g2 g3=>?_⟩;have e5:=Int.emod_nonneg m2 (b:=6) (by omega);have e6:=Int.emod_lt_of_pos m2 (b:=6) (by omega);refine⟨_,_,rfl,rfl,(by show (0:Int)<6;decide),_,rfl,(by omega),(by omega),?_⟩;refine UU (lo:=0) (n:=(m2 % 6).toNat) (λj σ Hj=>∃H0j vj tj lt told x5 x13 x10,σ=[some (.ref l),some (.int S),some (.int n),some (.ref x),some (.ref q),x5,x6,some (.ref ea),none,some (.int tj),x10,some (.ref lr),some (.ref lt),x13]/\Pc (clOf a) H x (i+j) v.wait (v.now+tt) tt lr rs H0j Hj vj tj lt told) ⟨_,v,tt,lt,[],_,_,_,rfl,P0⟩ ?_ ?_
     ·rintro j σ Hj hj ⟨H0j,vj,tj,lt,told,x5,x13,x10,rfl,L⟩;have L0:=L.t0;refine Zk (Zw (i:=13) sc_law.nd rfl (Or.inl rfl) (Zp ZT (ZA G__law_mix (hr.mono (by decide)) (by rfl) T.f__law_mix T.kp__law_mix T.B__law_mix .nil ZB (Za (pv 0) (Za (Zp ZZ Zg (pv 5)) Ze))) (Zp ZZ (pv 9) Zg))) ?_;refine⟨_,rfl,_,rfl,_,_,rfl,rfl,l,ns,_,rfl,(L.sH.trans L.bk.same).seq hl,λm3 g4 g5=>?_⟩;refine⟨_,rfl,_,_,rfl,rfl,_,_,rfl,rfl,(by show (0:Int)<tj+1;omega),?_⟩;have e7:=Int.emod_nonneg m3 (b:=tj+1) (by omega);have e8:=Int.emod_lt_of_pos m3 (b:=tj+1) (by omega);refine Zk (Zw (i:=9) sc_law.nd rfl (Or.inl rfl) (Zp Vy (pv 9) (pv 13))) ?_;refine⟨_,rfl,_,rfl,_,_,rfl,rfl,?_⟩;refine Yo (Zw (i:=12) sc_law.nd rfl (Or.inl rfl) (Zp op_cat (pv 12) (ZA G_pass_ticks (hr.mono (by decide)) (by rfl) T.f_pass_ticks T.kp_pass_ticks T.B_pass_ticks .nil ZB (Za (pv 3) (Za (pv 13) Ze))))) ?_;exact⟨_,rfl,_,rfl,_,rfl,L.pass (by omega) e7 (by omega) λH0' H' v' told' lt' L2=>⟨H0',v',_,lt',told',_,_,_,rfl,L2⟩⟩
     ·rintro σ Hj ⟨H0j,vj,tj,lt,told,x5,x13,x10,rfl,L⟩;refine Yo (Zn (SZ (op_eqD hr.units) (Zp op_cat (pv 12) (ZA G_pass_ticks (hr.mono (by decide)) (by rfl) T.f_pass_ticks T.kp_pass_ticks T.B_pass_ticks .nil ZB (Za (pv 3) (Za (pv 9) Ze)))) (pv 11) (Zz _))) ?_;refine⟨_,rfl,_,rfl,_,rfl,L.pass (by omega) L.t0 (Int.le_refl _) λH0' H' v' told' lt' L2=>?_⟩;have eg:v'.now=v.now+tt:=by
       have:=L2.go;omega
      have r2:=L2.rn;rw[eg] at r2;obtain⟨er,_⟩:=r2.unique rn;subst er;refine⟨_,rfl,_,_,(L2.tl.same L2.bk.same).den,(L2.due.same L2.bk.same).den,shp,shp,?_⟩;rw[TW shp];exact k _
end Tk
end
section
namespace Tk
open PySem L2
theorem law_end{P:Program}{w:World}{K:W.Frag}{mg:Str->Option Value}{fa:Addr}(TT:∃a,Txt K mg a)(hmg:mg "law"=some (.ref fa)):
  ∃fd:FuncData,(∀(s:Shared) (u:Value),BindsTo s fd ⟨[u],[]⟩ [("_law_script",u)])/\∀base:Heap,K.In base->base.Ns mainGlobals mg->FnOk P w K mg base (CXe P w) 40 fa fd ["_law_script"] (spLaw K):=by
 obtain⟨a,T⟩:=TT;have e:=T.f_law;rw[hmg] at e;have e2:fa=a.f_law:=by injection e with e;injection e
 subst e2;refine⟨a.fd_law,λs u=>?_,λbase _ _=>(ok_law T).mono (by decide)⟩;obtain⟨oc,od,kV,doc,pm,an,cdv,ct,osl,efd,lk,hcd⟩:=T.F_law.ex;rw[efd];exact .of_eq rfl
theorem walk{l:W.OpenLaw}{q:Program}{loose:List Str}{XP:(Str->Option Value)->Heap->Prop}{YP:World->Heap->Prop}{d:DefRec}{K:Params->W.Frag}{k:Nat}(hn:l.most=some 63)(hdf:d.params.defaults=[])(hr:Room k callerA)
 (hY:∀(w:World) (h:Heap),YP w h->(K w.params).In h)
 (F:∀(w:World) (mg:Str->Option Value) (fa:Addr) (h:Heap),(K w.params).In h->h.Ns mainGlobals mg->mg d.name=some (.ref fa)->
   ∃fd:FuncData,(∀(s:Shared) (u:Value),BindsTo s fd ⟨[u],[]⟩ [("_law_script",u)])/\∀base:Heap,(K w.params).In base->base.Ns mainGlobals mg->FnOk l.prog w (K w.params) mg base (CXe l.prog w) k fa fd ["_law_script"] (spLaw (K w.params))):
  W.WalkO q loose XP YP l.row.toRowW d [] (λf vs=>PySem.call f vs):=
 L2.walk_of (n:=63) (k:=k) (x:="_law_script") (CX:=λw=>CXe l.prog w) (sp:=λw=>spLaw (K w.params)) hn (by decide) hdf hr hY F (λ_ _ a ns hl _ hS=>⟨a,ns,rfl,hS,hl,λ_=>rfl⟩) λ_ _ _ _ _ z=>CXe.no z
end Tk
end
open PySem PySem.W PyProof.Rows
structure PySem.W.Fast:Prop where(tw11133551149694328703 tw12532518977921483532 tw1270244394713752787 tw12938945142060408773 tw13445477281615642294 tw14059111932496736119 tw14081129841121082048 tw16643972163446233012 tw17045666399661177356 tw17187193442770086320 tw5406504565664701803 tw5440567420359172055 tw6809849027110746830 tw6861657778642772123 tw7237875377903445940 tw7342694587265100101 tw8402979397654135388 tw91672559940632090 tw9640937455439339861 tw970058969723857878 tw7106934704313649320 tw3672203890110779019 tw15952884076306152953 tw2151989391148527365 tw6665898393774856711 tw15374750397320536019 tw3001668048567402695 tw2191942291643065845 tw5982483371248236354 tw17615704194851336126 tw14784709458775066715 tw12131355392009814222 tw8082642179766783586 tw14195042633923049345 tw3433707169191948302 tw5504670322879561401 tw11736769470175842806 tw6326857052056637788 tw16505949082047029408 tw5589217730527721322 tw11677714163463331238 tw5658556620181549905 tw8554159109779276914 tw10164890397550333749 tw917075584905528654 tw14752271871657187901 tw11425914127608836361 tw10764441790438203103 tw14166293748605885775 tw17995245842815365803 tw3198668788003733697 tw13741179950794287827 tw7962101727844188373 tw17840706631119221142 tw10742014807257170943 tw8279339138506522243 tw14589858325833542878 tw12619228729715827811 tw8706243340918880976 tw3208644982524933034 tw8046614746181679464 tw3133187034010751875 tw17251672142124633533 tw8752120545082291630 tw15512474723648683760 tw17926655290243039337 tw3698266252626928628 tw6203813082329729325 tw3662070607007032842 tw14894274641278736616 tw16941932640078368593 tw14273990986895724161 tw6979292092010681107 tw64369999310996774 tw14891576066466834546 tw15662036426897118470 tw3302712623035651899 tw7182764586005977480 tw7434969221399160198 tw12045207712591833851 tw11040408435901107389 tw2933206519296417159 tw18159765224448185977 tw3312931985599429366 tw12051524570747629234 tw14698782616337082893 tw15108218319921771006 tw2966544204858137543 tw637798714098945483 tw17367804843877374355 tw5104679410630859084 tw6105363497141189372 tw6906817382816422925 tw8850951456192876038 tw953656279553252082 tw16151742334802221341 tw5406694931612399271 tw1491677100546015574 tw1224584771246649042 tw416257636413223882 tw10780905937672667097 tw8535710607816586832 tw3354807012746945629 tw7867877299672982807 tw10496897825237616458 tw1021574711034158414 tw2045239950780687850 tw13210539285226970108 tw15363777672157176292 tw12104116716866369484 tw6662770941018458030 tw6164166233568406166 tw1988817934175736048 tw4949002261828510367 tw16742943501996849243 tw1405634093817167937 tw5709313650007400229 tw11264163766209375173 tw3068842532045344431 tw8099470701591968730 tw10993409690210831622 tw11613336145273354527 tw12213066702348293536 tw10435759608581832767 tw1026310693737337886 tw12568013423848310837 tw6145506441747586876 tw3541687576607345241 tw14173527898560988798 tw5195843082472791277 tw5429115099974832285 tw12786048685866223538 tw1274001296918466235 tw12736112853139119112 tw4543276584080039994 tw11009546369032416704 tw16406445245837515369 tw4797403106628960366 tw18204676471167154990 tw4192928470544534917 tw11691529426975093797 tw15905051780049988788 tw11205902538257520380 tw5294678467853418619 tw5320279628183669465 tw16484170889120020353 tw5258253298851572517 tw10634619033699432576 tw18273708181946587266 tw6939548143118801144 tw3950641897204996666 tw12013204062923615369 tw13336302315176635623 tw14349477112663819026 tw5524940268263989328 tw11971112039542304231 tw12725596196777587639 tw13869200850902514361 tw15381465060072535604 tw9118115995622675639 tw14538050720034082782 tw16866565237177275269 tw10241009560306969451 tw789146905911417970 tw60198934254814031 tw9183186839781747544 tw6189835642595200946 tw16882411003147010134 tw15671602733640465154 tw17314608179170294635 tw2196948828959466069 tw15162800916393711944 tw14568182750377747679 tw7540997126973900314 tw14663533445166944150 tw8579527833991127870 tw7832066101965959968 tw10302078451240294510 tw10398383434841872360 tw14903225688429814832 tw12376200717204338701 tw13817754686140192454 tw5296569836938410055 tw17684316472895803017 tw12608729858162040964 tw5374083698671036391 tw7732815980748952423 tw4827204447463884251 tw2386321657025315054 tw15521793015032107247 tw14243694849878613662 tw13009800278888540152 tw18412127003265267735 tw8345068061954574598 tw4475000425949673862 tw17531542851669730868 tw11900448542370081332 tw6309873478368840497 tw5421680774132197714 tw9331658305297462248 tw10488526459492244748 tw1433881404960933052 tw2474220469326063974 tw12784574605586531531 tw7197368043449080484 tw17016228476123379765 tw14163270007701557250 tw15632111402859807539 tw17895216942000140524 tw7657984221894173271 tw12090061580060137243 tw3596875677192562533 tw8453329684659755389 tw4771223461955110039 tw15355771533262717622 tw7387208329311691471 tw6649804709419589644 tw4560497420897507879 tw4043508618715072971 tw17961128252028639487 tw18182981150644341490 tw17059255195490173766 tw9493724518441528934 tw7386439297751109755 tw15516577030989051258 tw14593377843989495465 tw2813855601154265683 tw466847207563644623 tw14204442763751800968 tw14707638427023756519 tw14995742230928360837 tw5810123236648243868 tw8788271208167464937 tw12437114389042185152 tw13871423125056844740 tw17896506574864186302 tw1846100676604678171 tw10843794233019040008 tw17347659604831270726 tw994597468971470777 tw16896148082662300598 tw15997036297398482696 tw9653959786252366329 tw4846467589569832487 tw15366799207530031144 tw2315226093546166693 tw2687769990230361279 tw7316991063213288681 tw6454519971515081073 tw2487081987180716577 tw14640691072238043695 tw5697752040201532874 tw4406317277086298789 tw7809172846471841942 tw4050104572342912518 tw14815802136570046159 tw1497246133514169455 tw16617101807024781917 tw4970272114034034255 tw9502962114379799452 tw13364098144030104066 tw6266311201213597796 tw4875010642921341848 tw1009329179562073539 tw16181750030742573444 tw4519280643206718357 tw11531396149449675265 tw10270411535886195812 tw3220699203801759114 tw16782533924756860963 tw2751634997113988573 tw3694204332887035494 tw44723489859032221 tw14446149298629748309 tw6427830974419165548 tw17149725989822822737 tw6117664992144176094 tw2249729359560843597 tw6268976120253829924 tw2248622342977836715 tw8869422963832426318 tw5416678031053929876 tw1887500684974694835 tw15794257265109144446 tw14620332117714962851 tw6849145700551449608 tw5932307583148105444 tw7410818818313505275 tw16031399453591783026 tw16013632184651077687 tw4317764825739977705 tw13695207866048611843 tw9078458050046158217 tw3911539490432602654 tw711787011804851756 tw16751626545682929503 tw10605295245878779226 tw3061369048648638106 tw414858733006818832 tw14297374110927121320 tw14214715005303281934 tw2190007250079878773 tw2723243208203761975 tw11098444433849105975 tw7181269039817862161 tw14669327765533295387 tw15835324812877381369 tw2415328748749686538 tw8083258955605811609 tw4932173586786886832 tw11002773979377714831 tw17603154307543558389 tw17328887315063434196 tw12808663158900512813 tw4565605073425335319 tw4488471649380299986 tw1457762092308254441 tw15083633640644826950 tw12582949955188008927 tw13036073091163651864 tw14091173161866998447 tw260763525665326808 tw9806966408916444792 tw11297879231270925426 tw4640520058461874334 tw17278842314499741255 tw10748481554016174096 tw879531596529816499 tw17070142872136512741 tw16156683522923075156 tw4714693956634171183 tw6567418748493659096 tw10105533266351503533 tw11828729077464670389 tw1499855459892856083 tw17913321937175990177 tw13855679228278374446 tw17652284273900961435 tw4366847462695293595 tw7672087554434022417 tw8110146202910620138 tw15645796639073430454 tw13750029419094119320 tw16045331415592628549 tw5356756978078388570 tw9914051753789341127 tw16874408268075541730 tw4990216696277900501 tw51245855155024757 tw11814387043460449657 tw9946717803589234207 tw12942193926016561249 tw11322783235547986072 tw10842093214723095128 tw5595600677052481441 tw10390803875287390366 tw16538400288658706814 tw4285252879593102795 tw214823886072124128 tw10345763305868748802 tw2944264042650557551 tw12835003776357958990 tw12150913510877568294 tw2142318487279678546 tw13981323224236266011 tw5032751471531894905 tw3874459278194261336 tw8343509237425708750 tw1620861063076326451 tw680155215924892939 tw4259676596378537719 tw7941744743542126543 tw14259679290319424415 tw6112586886954131437 tw10612180033052684465 tw3263395224813827461 tw10347710547344964838 tw5291613061821961918 tw2242836008803553076 tw5318562773835416208 tw3745448873171173189 tw1841468444677223799 tw15925689721679583784 tw1203360650419219812 tw8662607909701471451 tw10660291034093166337 tw11134118213431748463 tw13511772794168589592 tw15821444796646686376 tw9034541019538563405 tw15115716901176879676 tw12075658210396004203 tw1457314586818092590 tw14821970287954862765 tw12545607133373835518 tw10339667107902357325 tw3105845906157919196 tw4431265595711451603 tw5959681570612332408 tw14273533646258743539 tw7713271022178351316 tw17227998144584583604 tw7264629877177462317 tw8661657688130094768 tw854399988408550842 tw12995198727106186941 tw2643315251411142595 tw8129018254507106710 tw14238802363577259362 tw692771473095155246 tw1582689237774884260 tw17420868460453648166 tw3660076471980699031 tw4124147413587103002 tw6922440461162504642 tw13027697697794908155 tw13533247583580258465 tw11810422566958723779 tw2712818531019541482 tw159915980262781816 tw11623907291801899232 tw18097365595262965975 tw274050962744807108 tw11958966454218765195 tw7387355529043458048 tw17787626642417224973 tw246979739674407099 tw13712920368095095844 tw3739921098308577003 tw397230822058595667 tw17010487119194520900 tw3438112953400476298 tw10345935121182500044 tw7637143269914602883 tw12307797047275958472 tw2528429614725813021 tw8482073630238675262 tw15867339700578121112 tw10108445998674375009 tw18200283167278381218 tw6118307234549135366 tw1486262688994474871 tw11834380499071853276 tw12402316864499166048 tw12222468676816293057 tw4407627149360967940 tw8721389952775467059 tw13720774507197009975 tw4182691980942653202 tw14031569681963560210 tw18070197058379735293 tw16311937251367767689 tw8717725641741326055 tw12964506450025054624 tw12580810039081646470 tw15072740641329783512 tw1614244519238814049 tw17696702068844233767 tw162552625113884685 tw8717640618524839743 tw17436274338467691287 tw4763740298468742491 tw9900101550862463783 tw17272003899224563031 tw8547842572131122141 tw5402322962931332568 tw15349189320570175846 tw8062439498675429291 tw17253668858466039602 tw14735033674374729835 tw1309808439958104448 tw5265104703349617176 tw11023183751256885272 tw2815205673420531282 tw17834159827655784821 tw1754181261706093699 tw5422605689347095379 tw15910615822704391379 tw17464271392247888079 tw18434482802754665838 tw16607603918912909497 tw11649968163465546059 tw4836961214082994669 tw6019441586122405969 tw440574361907098205 tw18123240145915427782 tw9492164394570957387 tw11775514095941714015 tw8488796915236733746 tw17120498176324303012 tw14351210284539335801 tw2073400247465661775 tw9521982626980831812 tw5735213472863929222 tw1091387273335324081 tw14802983534431919344 tw10051362797625185454 tw14142275295614919867 tw14702212419114887640 tw12957583714703853613 tw16664562528982638267 tw3009894555658702441 tw17904691763901359517 tw15046352479713485344 tw17865736114836337723 tw9851222502621030633 tw4696209844265027226 tw3855317868016203196 tw3413599274449067358 tw17717230966747885817 tw12132718292344318461 tw12096387539959427524 tw9542490752623652716:True)
set_option maxRecDepth 100000 in
set_option maxHeartbeats 0 in
theorem PySem.Challenge.cw_tickbook_k30_whole_ahead_holds : PySem.Challenge.rw_tickbook_k30_whole_ahead.Holds := by
  w_on; o_law; k_head; (case hw => w_witness2)
  k_fill
  refine Tk.walk (k := 40) (l := PySem.Challenge.rw_tickbook_k30_whole_ahead) rfl rfl ⟨rfl, by decide, by decide⟩ (fun w h Y => PySem.W.kIn_of Y) ?F
  case F =>
    intro w mg fa h KX G hmg
    have TT : ∃ a, Tk.Txt (L2.KOf KX) mg a := by
      dsimp only [L2.KOf]
      refine' Tk.txt_mk KX G ?e1 ?e2 ?e3 ?e4 ?e5 ?e6 ?e7 ?e8 ?e9 ?e10 ?e11 ?e12 ?e13 ?e14 ?e15 ?e16 ?e17 ?e18 ?e19 ?e20 ?e21 ?e22 ?e23 ?e24 ?e25 ?e26 ?e27 ?e28 ?e29 ?e30 ?e31 ?e32 ?e33 ?e34 ?e35 ?e36 ?e37 ?e38 ?e39 ?e40 ?e41 ?e42 ?e43 ?e44 ?e45 ?e46 ?e47 ?e48 ?e49 ?e50 ?e51 ?e52 ?e53 ?e54 ?e55 ?e56 ?e57 ?e58 ?e59 ?e60 ?e61 ?e62 ?e63 ?e64 ?e65 ?e66 ?e67 ?e68 ?e69 ?e70 ?e71 ?e72 ?e73 ?e74 ?e75 ?e76 ?e77 ?e78 ?e79 ?e80 ?e81 ?e82 ?e83 ?e84 ?e85 ?e86 ?e87 ?e88 ?e89 ?e90 ?e91 ?e92 ?e93 ?e94 ?e95 ?e96 ?e97 ?e98 ?e99 ?e100 ?e101 ?e102 ?e103 ?e104 ?e105 ?e106 ?e107 ?e108 ?e109 ?e110 ?e111 ?e112 ?e113 ?e114 ?e115 ?e116 ?e117 ?e118 ?e119 ?e120 ?e121 ?e122 ?e123 ?e124 ?e125 ?e126 ?e127 ?e128 ?e129 ?e130 ?e131 ?e132 ?e133 ?e134 ?e135 ?e136 ?e137 ?e138 ?e139 ?e140 ?e141 ?e142 ?e143 ?e144 ?e145 ?e146 ?e147 ?e148 ?e149 ?e150 ?e151 ?e152 ?e153 ?e154 ?e155 ?e156 ?e157 ?e158 ?e159 ?e160 ?e161 ?e162 ?e163 ?e164 ?e165 ?e166 ?e167 ?e168 ?e169 ?e170 ?e171 ?e172 ?e173 ?e174 ?e175 ?e176 ?e177 ?e178 ?e179 ?e180 ?e181 ?e182 ?e183 ?e184 ?e185 ?e186 ?e187 ?e188 ?e189 ?e190 ?e191 ?e192 ?e193 ?e194 ?e195 ?e196 ?e197 ?e198 ?e199 ?e200 ?e201 ?e202 ?e203 ?e204 ?e205 ?e206 ?e207 ?e208 ?e209 ?e210 ?e211 ?e212 ?e213 ?e214 ?e215 ?e216 ?e217 ?e218 ?e219 ?e220 ?e221 ?e222 ?e223 ?e224 ?e225 ?e226 ?e227 ?e228 ?e229 ?e230 ?e231 ?e232 ?e233 ?e234 ?e235 ?e236 ?e237 ?e238 ?e239 ?e240 ?e241 ?e242 ?e243 ?e244 ?e245 ?e246 ?e247 ?e248 ?e249 ?e250 ?e251 ?e252 ?e253 ?e254 ?e255 ?e256 ?e257 ?e258 ?e259 ?e260 ?e261 ?e262 ?e263 ?e264 ?e265 ?e266 ?e267 ?e268 ?e269 ?e270 ?e271 ?e272 ?e273 ?e274 ?e275 ?e276 ?e277 ?e278 ?e279 ?e280 ?e281 ?e282 ?e283 ?e284 ?e285 ?e286 ?e287 ?e288 ?e289 ?e290 ?e291 ?e292 ?e293 ?e294 ?e295 ?e296 ?e297 ?e298 ?e299 ?e300 ?e301 ?e302 ?e303 ?e304 ?e305 ?e306 ?e307 ?e308 ?e309 ?e310 ?e311 ?e312 ?e313 ?e314 ?e315 ?e316 ?e317 ?e318 ?e319 ?e320 ?e321 ?e322 ?e323 ?e324 ?e325 ?e326 ?e327 ?e328 ?e329 ?e330 ?e331 ?e332 ?e333 ?e334 ?e335 ?e336 ?e337 ?e338 ?e339 ?e340 ?e341 ?e342 ?e343 ?e344 ?e345 ?e346 ?e347 ?e348 ?e349 ?e350 ?e351 ?e352 ?e353 ?e354 ?e355
      case e1|e2|e3|e4|e5|e6|e7|e8|e9|e10|e11|e12|e13|e14|e15|e16|e17|e18|e19|e20|e21|e22|e23|e24|e25|e26|e27|e28|e29|e30|e31|e32|e33|e34|e35|e36|e37|e38|e39 => k_is
      case e40 => k_exc
      case e41|e42|e43 => k_is
      case e44 => k_exc
      case e45|e46|e47|e48|e49|e50|e51|e52 => k_is
      case e53 => k_exc
      case e54|e55|e56|e57|e58|e59|e60|e61|e62|e63|e64|e65|e66|e67|e68|e69|e70|e71|e72|e73|e74|e75|e76|e77|e78|e79|e80|e81|e82|e83|e84|e85|e86|e87|e88|e89|e90|e91|e92|e93|e94|e95|e96|e97|e98|e99|e100|e101|e102|e103|e104|e105|e106|e107|e108|e109|e110|e111|e112|e113|e114|e115|e116|e117|e118|e119|e120|e121|e122|e123|e124|e125|e126|e127|e128|e129|e130|e131|e132|e133|e134|e135|e136|e137|e138|e139|e140|e141|e142|e143|e144|e145|e146|e147|e148|e149|e150|e151|e152|e153|e154|e155|e156|e157|e158|e159|e160|e161|e162|e163|e164|e165|e166|e167|e168|e169|e170|e171|e172|e173|e174|e175|e176|e177|e178|e179|e180|e181|e182|e183|e184|e185|e186|e187|e188|e189|e190|e191|e192|e193|e194|e195|e196|e197|e198|e199|e200|e201|e202|e203|e204|e205|e206|e207|e208|e209|e210|e211|e212|e213|e214|e215|e216|e217|e218|e219|e220|e221|e222|e223|e224|e225|e226|e227|e228|e229|e230|e231|e232|e233|e234|e235|e236|e237|e238|e239|e240|e241|e242|e243|e244|e245|e246|e247|e248|e249|e250|e251|e252|e253|e254|e255|e256|e257|e258|e259|e260|e261|e262|e263|e264|e265|e266|e267|e268|e269|e270|e271|e272|e273|e274|e275|e276|e277|e278|e279|e280|e281|e282|e283|e284|e285|e286|e287|e288|e289|e290|e291|e292|e293|e294|e295|e296|e297|e298|e299|e300|e301|e302|e303|e304|e305|e306|e307|e308|e309|e310|e311|e312|e313|e314|e315|e316|e317|e318|e319|e320|e321|e322|e323|e324|e325|e326|e327|e328|e329|e330|e331|e332|e333|e334|e335|e336|e337|e338|e339|e340|e341|e342|e343|e344|e345|e346|e347|e348|e349|e350|e351|e352|e353|e354|e355 => k_is
    exact Tk.law_end TT hmg
