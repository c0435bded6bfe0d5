import PyProof.Rows.All
import Wide.All
import OpenK.AllK
import Wide.FinOn
import PyProof.EqAt
import PyProof.EqKinds
import PyProof.TupleCall
import KE.BitLaws
import Open.SpecLaws
import KE.OsHead
import KE.OsGo
import KE.IntBitsLaws
import PyVagrao
import PySem.Challenge.RW_slopeplan_s01_answers
set_option Elab.async false
set_option bootstrap.genMatcherCode false
set_option compiler.extract_closed false
set_option linter.all false
set_option maxRecDepth 100000
set_option maxHeartbeats 4000000
universe u v
theorem gDm{α:Type u}{l:List α}{i:Nat}{a:α}:l.getD i a=(l[i]?).getD a:=List.getD_eq_getElem?_getD
theorem bAt(a b:Bool):((a&&b)=true)=(a=true/\b=true):=Bool.and_eq_true a b
theorem gEm{α:Type u}{β:Type v}{f:α->β}{l:List α}{i:Nat}:(l.map f)[i]? = (l[i]?).map f:=List.getElem?_map
theorem lEa{α:Type u}{a b:List α}:(a++b).length=a.length+b.length:=List.length_append
theorem oDt{p:Prop}[Decidable p](h:decide p=true):p:=of_decide_eq_true h
theorem lMc{α:Type u}(y:α){a:α}{l:List α}(h:a∈l):a∈y::l:=List.mem_cons_of_mem y h
theorem nLr(n:Nat):n<=n:=Nat.le_refl n
theorem oSi{α:Type u}{a b:α}(h:some a=some b):a=b:=Option.some.inj h
theorem lMs{α:Type u}{a:α}{l:List α}:a∈a::l:=List.mem_cons_self
theorem rCm(a b:Int):((a*b:Int):Rat)=(a:Rat)*(b:Rat):=Rat.intCast_mul a b
theorem nLt{a b c:Nat}(h:a<=b)(k:b<=c):a<=c:=Nat.le_trans h k
theorem bFt:false≠true:=Bool.false_ne_true
theorem lMa{α:Type u}{β:Type v}{f:α->β}{a b:List α}:(a++b).map f=a.map f++b.map f:=List.map_append
theorem lAa{α:Type u}(a b c:List α):a++b++c=a++(b++c):=List.append_assoc a b c
theorem tOl{α:Type u}{l:List α}{i:Nat}(h:l.length<=i):l.take i=l:=List.take_of_length_le h
abbrev Fg:=PySem.W.Frag
theorem lmm{α:Type u}{β:Type v}(f:α->β){as:List α}:(as.map f).length=as.length:=by simp
theorem gge{α:Type u}{l:List α}{i:Nat}(h:i<l.length):l[i]? = some l[i]:=by simp[h]
theorem mge{α:Type u}{l:List α}{i:Nat}{a:α}(e:l[i]? = some a):a∈l:=List.mem_of_getElem?  e
namespace L2
open PySem PySem.Spec PyProof.Rows
inductive E2{A B:Type}(p:A->B->Prop):Prop|i(a:A)(b:B):p a b->E2 p
inductive E3{A B C:Type}(p:A->B->C->Prop):Prop|i(a:A)(b:B)(c:C):p a b c->E3 p
inductive E4{A B C D:Type}(p:A->B->C->D->Prop):Prop|i(a:A)(b:B)(c:C)(d:D):p a b c d->E4 p
inductive E5{A B C D E:Type}(p:A->B->C->D->E->Prop):Prop|i(a:A)(b:B)(c:C)(d:D)(e:E):p a b c d e->E5 p
inductive E6{A B C D E F:Type}(p:A->B->C->D->E->F->Prop):Prop|i(a:A)(b:B)(c:C)(d:D)(e:E)(f:F):p a b c d e f->E6 p
inductive E7{A B C D E F G:Type}(p:A->B->C->D->E->F->G->Prop):Prop|i(a:A)(b:B)(c:C)(d:D)(e:E)(f:F)(g:G):p a b c d e f g->E7 p
inductive E8{A B C D E F G H:Type}(p:A->B->C->D->E->F->G->H->Prop):Prop|i(a:A)(b:B)(c:C)(d:D)(e:E)(f:F)(g:G)(h:H):p a b c d e f g h->E8 p
theorem zbC:1<=sizeLine:=by decide
theorem szl2:2<=sizeLine:=by decide
theorem szl3:3<=sizeLine:=by decide
theorem szl6:6<=sizeLine:=by decide
abbrev Key:=Sum Int Str
def keyIs:Key->Value->Bool
 | .inl k,v=>Value.isInt k v
 | .inr x,v=>Value.isStrOf x v
def keyH(w:World):Key->Int
 | .inl k=>hashInt k
 | .inr x=>hashStr w x
theorem zci :∀{k:Key} {v:Value},keyIs k v=true->(∃i t,k=Sum.inl i/\v=Value.int i t)\/(∃x t,k=Sum.inr x/\v=Value.str x t)
 | .inl i,v,h=>by
  obtain⟨t,e⟩:=Value.isInt_shape (k:=i) (v:=v) h
  exact .inl ⟨i,t,rfl,e⟩
 | .inr x,v,h=>by
  obtain⟨t,e⟩:=Value.isStrOf_shape (x:=x) (v:=v) h
  exact .inr ⟨x,t,rfl,e⟩
theorem zx5(i:Int)(t:Tok):keyIs (.inl i) (.int i t)=true:=by simp[keyIs,Value.isInt]
theorem zx6(x:Str)(t:Tok):keyIs (.inr x) (.str x t)=true:=by simp[keyIs,Value.isStrOf]
theorem zBp(a b:Int):decide ((Sum.inl a:Key)=Sum.inl b)=(a==b):=by
 by_cases e:a=b
 ·subst e;simp
 ·have h:¬(Sum.inl a:Key)=Sum.inl b:=fun q=>e (Sum.inl.inj q)
  rw[decide_eq_false h]
  exact(beq_eq_false_iff_ne.mpr e).symm
theorem zBq(a b:Str):decide ((Sum.inr a:Key)=Sum.inr b)=decide (a=b):=by
 by_cases e:a=b
 ·subst e;simp
 ·have h:¬(Sum.inr a:Key)=Sum.inr b:=fun q=>e (Sum.inr.inj q)
  rw[decide_eq_false h,decide_eq_false e]
theorem zBr(a:Int)(b:Str):decide ((Sum.inl a:Key)=Sum.inr b)=false:=decide_eq_false (fun q=>nomatch q)
theorem zBs(a:Str)(b:Int):decide ((Sum.inr a:Key)=Sum.inl b)=false:=decide_eq_false (fun q=>nomatch q)
def zbv(prog:Program)(w:World):PySem.KeyKind prog w Key where
 is:=keyIs
 hash:=keyH w
 inj:=fun v a b ha hb=>by
  rcases zci ha with⟨i,t,rfl,rfl⟩|⟨x,t,rfl,rfl⟩
  ·rcases zci hb with⟨j,u,rfl,e⟩|⟨y,u,rfl,e⟩
   ·injection e with e1 _;rw[e1]
   ·exact nomatch e
  ·rcases zci hb with⟨j,u,rfl,e⟩|⟨y,u,rfl,e⟩
   ·exact nomatch e
   ·injection e with e1 _;rw[e1]
 byValue:=fun k v h=>by
  rcases zci h with⟨i,t,rfl,rfl⟩|⟨x,t,rfl,rfl⟩<;>rfl
 pyHash:=fun hv h=>by
  rcases zci hv with⟨i,t,rfl,rfl⟩|⟨x,t,rfl,rfl⟩
  ·exact wpAny_pyHash_int h
  ·exact wpAny_pyHash_str h
 eqBool:=fun hu hv h=>by
  rcases zci hu with⟨i,t,rfl,rfl⟩|⟨x,t,rfl,rfl⟩
  ·rcases zci hv with⟨j,u,rfl,rfl⟩|⟨y,u,rfl,rfl⟩
   ·rw[zBp]at h;exact wpAny_eqBool_int h
   ·rw[zBr]at h;exact SeqAt.EqAt.int_str i t y u _ _ _ _ h
  ·rcases zci hv with⟨j,u,rfl,rfl⟩|⟨y,u,rfl,rfl⟩
   ·rw[zBs]at h;exact SeqAt.EqAt.str_int x t j u _ _ _ _ h
   ·rw[zBq]at h;exact wpAny_eqBool_str h
 «strs»:=fun k x t v h=>by
  rcases zci h with⟨i,u,rfl,e⟩|⟨y,u,rfl,e⟩
  ·exact nomatch e
  ·injection e with e1 _
   subst e1
   cases v<;>rfl
theorem zvp(prog:Program)(w:World)(i:Int)(t:Tok):(zbv prog w).is (.inl i) (.int i t)=true:=zx5 i t
theorem zvq(prog:Program)(w:World)(x:Str)(t:Tok):(zbv prog w).is (.inr x) (.str x t)=true:=zx6 x t
inductive V where
 | non|bl (b:Bool)|int (i:Int)|str (x:Str)|byt (b:Array UInt8)|flt (b:UInt64)|ref (a:Addr)|ty (n:String)
 deriving DecidableEq
def zZ:V->Value->Prop
 | .non,u=>u=Value.none
 | .bl b,u=>u=Value.bool b
 | .int i,u=>∃t,u=Value.int i t
 | .str x,u=>∃t,u=Value.str x t
 | .byt b,u=>∃t,u=Value.bytes b t
 | .flt b,u=>∃t,u=Value.float b t
 | .ref a,u=>u=Value.ref a
 | .ty n,u=>u=Value.type n
abbrev zQ:List V->List Value->Prop:=Paired zZ
theorem zQ.length{xs:List V}{us:List Value}(r:zQ xs us):xs.length=us.length:=Paired.length r
theorem zQ.get :∀{xs:List V} {us:List Value} {i:Nat} {x:V},zQ xs us->xs[i]? = some x->∃u,us[i]? = some u/\zZ x u
 | _,_,_,_,.nil,e=>by simp at e
 | _,_,0,_,.cons r _,e=>by simp at e;subst e;exact⟨_,rfl,r⟩
 | _,_,i+1,x,.cons _ t,e=>by
  obtain⟨u,h1,h2⟩:=zQ.get (i:=i) (x:=x) t (by simpa using e)
  exact⟨u,by simpa using h1,h2⟩
theorem zQ.set{x:V}{u:Value}(r:zZ x u) :∀{xs:List V} {us:List Value} (i:Nat),zQ xs us->zQ (xs.set i x) (us.set i u)
 | _,_,_,.nil=>.nil
 | _,_,0,.cons _ t=>.cons r t
 | _,_,i+1,.cons q t=>.cons q (zQ.set r i t)
theorem zQ.append :∀{xs ys:List V} {us ws:List Value},zQ xs us->zQ ys ws->zQ (xs++ys) (us++ws)
 | _,_,_,_,.nil,s=>s
 | _,_,_,_,.cons r t,s=>.cons r (zQ.append t s)
theorem zQ.take :∀{xs:List V} {us:List Value} (n:Nat),zQ xs us->zQ (xs.take n) (us.take n)
 | _,_,0,_=>.nil
 | _,_,_+1,.nil=>.nil
 | _,_,n+1,.cons r t=>.cons r (zQ.take n t)
theorem zQ.drop :∀{xs:List V} {us:List Value} (n:Nat),zQ xs us->zQ (xs.drop n) (us.drop n)
 | _,_,0,r=>r
 | _,_,_+1,.nil=>.nil
 | _,_,n+1,.cons _ t=>zQ.drop n t
def RelO:Option V->Option Value->Prop
 | some v,some u=>zZ v u
 | none,none=>True
 | _,_=>False
def KV{κ:Type}:List (κ×V)->List (κ×Value)->Prop:=Paired fun(p:κ×V) (q:κ×Value)=>p.1=q.1/\zZ p.2 q.2
def kV:Key->V
 | .inl i=>.int i
 | .inr x=>.str x
inductive HO where
 | lst (xs:List V)
 | tup (xs:List V)
 | dK (kvs:List (Key×V))|dT (kvs:List (List Key×V))
 | set (S:Int->Bool) (n:Nat)
 | ins (C dx:Addr) (fs:List (Str×V))
 | own (x:Addr)
 | xd (fs:List (Str×V))
 | met (f x:Addr)
 | rng (lo hi:Int)
 | frz (o:Obj) (u:HO)
 | tbl (ps:Array Value)
 | ext (φ:Heap->Prop)
abbrev Hp:=Addr->Option HO
def upd(H:Hp)(a:Addr)(o:HO):Hp:=fun b=>if b=a then some o else H b
theorem zd{H:Hp}{a:Addr}{o:HO}:upd H a o a=some o:=by unfold upd;rw[if_pos rfl]
theorem zf{H:Hp}{a b:Addr}{o:HO}(h:b≠a):upd H a o b=H b:=by unfold upd;rw[if_neg h]
theorem zI{H:Hp}{a b:Addr}{o u:HO}(h:H a=some o)(h':H b=some u)(d:o≠u):a≠b:=by
 intro e;subst e;rw[h]at h';exact d (oSi h')
theorem zk{H:Hp}{a b:Addr}{o:HO}(h:H a=some o)(h':H b=none):a≠b:=by
 intro e;subst e;rw[h]at h';cases h'
section
variable (P:Program)(w:World)
def zbr(H:Hp)(h:Heap)(a:Addr):HO->Prop
 | .lst xs=>xs.length<=sizeLine/\∃(its:List Value) (n:Nat),zQ xs its/\h.get? a=some {cls:=.type "list",data:=.seq its.toArray n}
 | .tup xs=>xs.length<=sizeLine/\∃its:List Value,zQ xs its/\IsTup h a its.toArray
 | .dK kvs=>kvs.length<=sizeLine/\(a==sysModules)=false/\∃vs,KV kvs vs/\h.DictOf (zbv P w) a vs
 | .dT kvs=>kvs.length<=sizeLine/\(a==sysModules)=false/\∃xs:List (List Key×Addr×Value),
   Paired (fun(p:List Key×V) (q:List Key×Addr×Value)=>p.1=q.1/\H q.2.1=some (.tup (p.1.map kV))/\zZ p.2 q.2.2) kvs xs/\
   ∃o es ep,h.get? a=some o/\o.ExactDict/\o.data=.dict es ep/\es.toList=xs.map (entryOfKey (tupleKind (zbv P w)))/\(xs.map (·.1)).Nodup
 | .set S n=>h.SetOf (intKind P w) a S n
 | .ins C dx fs=>H dx=some (.own a)/\fs.length<=1000/\dx≠a/\h.get? a=some (PySem.W.instObj C dx)/\
   ∃mA,h.Ns1 dx mA/\(∀f,RelO (fs.lookup f) (mA f))/\PySem.Within mA (fs.map (·.1))
 | .own _=>∃o,h.get? a=some o
 | .xd fs=>∃mA,h.Ns1 a mA/\∀f,RelO (fs.lookup f) (mA f)
 | .rng lo hi=>∃t u v,h.get? a=some {cls:=.type "range",data:=.fields #[.int lo t,.int hi u,.int 1 v]}
 | .frz o u=>h.get? a=some o/\zbr H h a u
 | .tbl ps=>h.get? a=some {cls:=.none,data:=.fields ps}
 | .met f x=>h.get? a=some (PySem.W.methodObj (.ref f) (.ref x))
 | .ext φ=>φ h/\(∃o,h.get? a=some o)/\∀h1 h2:Heap,φ h1->(∀o,h1.get? a=some o->h2.get? a=some o)->φ h2
def HOk(H:Hp)(h:Heap):Prop:=∀a o,H a=some o->zbr P w H h a o
end
section
variable {P:Program}{w:World}{H H':Hp}{h h':Heap}{a:Addr}{o:HO}
theorem zbr.lt(x:zbr P w H h a o):a<h.objs.size:=by
 cases o with
 | lst xs=>obtain⟨_,_,_,_,e⟩:=x;exact Heap.lt_size e
 | tup xs=>obtain⟨_,_,_,p⟩:=x;exact p.lt
 | dK kvs=>obtain⟨_,_,_,_,o,_,_,e,_⟩:=x;exact Heap.lt_size e
 | dT kvs=>obtain⟨_,_,_,_,o,_,_,e,_⟩:=x;exact Heap.lt_size e
 | set S n=>obtain⟨o,_,_,_,e,_⟩:=x;exact Heap.lt_size e
 | ins C dx fs=>obtain⟨_,_,_,e,_⟩:=x;exact Heap.lt_size e
 | own y=>obtain⟨_,e⟩:=x;exact Heap.lt_size e
 | xd fs=>obtain⟨_,⟨_,_,_,e,_⟩,_⟩:=x;exact Heap.lt_size e
 | rng lo hi=>obtain⟨_,_,_,e⟩:=x;exact Heap.lt_size e
 | frz ob u=>obtain⟨e,_⟩:=x;exact Heap.lt_size e
 | tbl ps=>exact Heap.lt_size (show h.get? a=some _ from x)
 | met f y=>exact Heap.lt_size (show h.get? a=some _ from x)
 | ext φ=>obtain⟨_,⟨_,e⟩,_⟩:=x;exact Heap.lt_size e
theorem Paired.mapP{α β:Type}{F G:α->β->Prop} :∀{l₁:List α} {l₂:List β},Paired F l₁ l₂->(∀a b,F a b->G a b)->Paired G l₁ l₂
 | _,_,.nil,_=>.nil
 | _,_,.cons r t,f=>.cons (f _ _ r) (Paired.mapP t f)
theorem zbr.stay(x:zbr P w H h a o)(k :∀b u,(b=a\/H b=some (.own a))->h.get? b=some u->h'.get? b=some u)
  (ho :∀b,H b=some (.own a)->H' b=some (.own a)) (ht :∀b xs,H b=some (.tup xs)->H' b=some (.tup xs)):zbr P w H' h' a o:=by
 induction o with
 | lst xs=>obtain⟨z,its,n,r,e⟩:=x;exact⟨z,its,n,r,k _ _ (.inl rfl) e⟩
 | tup xs=>obtain⟨z,its,r,ob,e,c⟩:=x;exact⟨z,its,r,ob,k _ _ (.inl rfl) e,c⟩
 | dK kvs=>obtain⟨z,y,vs,r,ob,es,ep,e,c⟩:=x;exact⟨z,y,vs,r,ob,es,ep,k _ _ (.inl rfl) e,c⟩
 | dT kvs=>
  obtain⟨z,y,xs,r,ob,es,ep,e,c⟩:=x
  exact⟨z,y,xs,Paired.mapP r fun p q z=>⟨z.1,ht _ _ z.2.1,z.2.2⟩,ob,es,ep,k _ _ (.inl rfl) e,c⟩
 | set S n=>obtain⟨ob,es,ep,t,e,c⟩:=x;exact⟨ob,es,ep,t,k _ _ (.inl rfl) e,c⟩
 | ins C dx fs=>
  obtain⟨d,z,ne,e,mA,⟨od,es,ep,e2,c⟩,r⟩:=x
  exact⟨ho _ d,z,ne,k _ _ (.inl rfl) e,mA,⟨od,es,ep,k _ _ (.inr d) e2,c⟩,r⟩
 | own y=>obtain⟨ob,e⟩:=x;exact⟨ob,k _ _ (.inl rfl) e⟩
 | xd fs=>obtain⟨mA,⟨od,es,ep,e,c⟩,r⟩:=x;exact⟨mA,⟨od,es,ep,k _ _ (.inl rfl) e,c⟩,r⟩
 | rng lo hi=>obtain⟨t,u,v,e⟩:=x;exact⟨t,u,v,k _ _ (.inl rfl) e⟩
 | frz ob u ih=>obtain⟨e,q⟩:=x;exact⟨k _ _ (.inl rfl) e,ih q⟩
 | tbl ps=>
  have e:h.get? a=some {cls:=.none,data:=.fields ps}:=x
  show h'.get? a=some {cls:=.none,data:=.fields ps}
  exact k a _ (.inl rfl) e
 | met f y=>
  have e:h.get? a=some (PySem.W.methodObj (.ref f) (.ref y)):=x
  show h'.get? a=some (PySem.W.methodObj (.ref f) (.ref y))
  exact k a _ (.inl rfl) e
 | ext φ=>obtain⟨p,⟨o,e⟩,st⟩:=x;exact⟨st _ _ p fun o q=>k _ _ (.inl rfl) q,⟨o,k _ _ (.inl rfl) e⟩,st⟩
theorem HOk.lt(x:HOk P w H h)(e:H a=some o):a<h.objs.size:=(x a o e).lt
theorem HOk.fresh(x:HOk P w H h)(e:h.objs.size<=a):H a=none:=by
 cases q:H a with
 | none=>rfl
 | some u=>exact absurd (Nat.lt_of_lt_of_le (x.lt q) e) (Nat.lt_irrefl _)
theorem HOk.kept(x:HOk P w H h)(k :∀b u,h.get? b=some u->h'.get? b=some u):HOk P w H h':=fun a o e=>
 (x a o e).stay (fun b u _ q=>k b u q) (fun _ q=>q) fun _ _ q=>q
theorem HOk.laid(x:HOk P w H h)(k :∀b u,h.get? b=some u->h'.get? b=some u)(hp:h.objs.size<=a)(new:zbr P w (upd H a o) h' a o):HOk P w (upd H a o) h':=fun b u e=>by
 have hn:=x.fresh hp
 by_cases hb:b=a
 ·subst hb;rw[zd]at e;cases e;exact new
 ·rw[zf hb]at e
  exact(x b u e).stay (fun c v _ q=>k c v q) (fun c q=>by rw[zf (zk q hn)];exact q) fun c xs q=>by rw[zf (zk q hn)];exact q
end
def Rd(H:Hp)(a:Addr)(u:HO):Prop:=H a=some u\/∃o,H a=some (.frz o u)
theorem Rd.ok{P:Program}{w:World}{H:Hp}{h:Heap}{a:Addr}{u:HO}(r:Rd H a u)(x:HOk P w H h):zbr P w H h a u:=by
 rcases r with r|⟨o,r⟩
 ·exact x a u r
 ·obtain⟨_,q⟩:=x a _ r
  exact q
def Mut:Option HO->Prop
 | some (.lst _)=>True
 | some (.dK _)=>True
 | some (.dT _)=>True
 | some (.set _ _)=>True
 | some (.ins _ _ _)=>True
 | some (.ext _)=>True
 | _=>False
section
variable {P:Program}{w:World}{H:Hp}{h h':Heap}{x e:Addr}{o':HO}
theorem HOk.write(ok:HOk P w H h)(mu:Mut (H x))(he:e=x\/H e=some (.own x))(k :∀b u,b≠e->h.get? b=some u->h'.get? b=some u)(heo :∃u,h'.get? e=some u)
  (new:zbr P w (upd H x o') h' x o'):HOk P w (upd H x o') h':=fun b u q=>by
 have nown :∀c y,H c=some (.own y)->c≠x:=fun c y r z=>by subst z;rw[r]at mu;exact mu
 have ntup :∀c xs,H c=some (.tup xs)->c≠x:=fun c xs r z=>by subst z;rw[r]at mu;exact mu
 by_cases hb:b=x
 ·subst hb;rw[zd]at q;cases q;exact new
 ·rw[zf hb]at q
  by_cases hbe:b=e
  ·have q':H b=some (.own x):=by
    rcases he with z|z
    ·exact absurd (hbe.trans z) hb
    ·rw[hbe];exact z
   rw[q]at q';cases q'
   obtain⟨v,hv⟩:=heo
   exact⟨v,by rw[hbe];exact hv⟩
  ·refine(ok b u q).stay (fun c v hc r=>k c v ?_ r) (fun c r=>by rw[zf (nown c b r)];exact r) fun c xs r=>by rw[zf (ntup c xs r)];exact r
   rcases hc with rfl|hc
   ·exact hbe
   ·rintro rfl
    rcases he with z|z
    ·exact nown c b hc z
    ·rw[hc]at z;cases z;exact hb rfl
end
structure Un(fs ex:List Addr)(H H':Hp)(h h':Heap):Prop where
 keep :∀b o,h.get? b=some o->H b=none->b∉fs->b∉ex->h'.get? b=some o
 slot :∀b o,h.get? b=some o->H b=none->b∈fs->b∉ex->∃sl,h'.get? b=some {o with slots:=sl}
 free :∀b o,h.get? b=some o->H b=none->b∉ex->H' b=none
 there :∀b o,h.get? b=some o->b∉ex->∃o',h'.get? b=some o'
 tups :∀b xs,H b=some (.tup xs)->H' b=some (.tup xs)
 frzs :∀b o u,H b=some (.frz o u)->H' b=some (.frz o u)
 tbls :∀b ps,H b=some (.tbl ps)->∃more,H' b=some (.tbl (ps++more))
section
variable {fs fs' ex ex':List Addr}{H H1 H2:Hp}{h h1 h2 h':Heap}{a x e:Addr}{o:HO}
theorem Un.any(u:Un fs ex H H1 h h1){b:Addr}{ob:Obj}(q:h.get? b=some ob)(n:H b=none)(hx:b∉ex) :∃sl,h1.get? b=some {ob with slots:=sl}:=by
 by_cases hb:b∈fs
 ·exact u.slot b ob q n hb hx
 ·exact⟨ob.slots,u.keep b ob q n hb hx⟩
theorem Un.kept(k :∀b u,h.get? b=some u->h'.get? b=some u):Un fs ex H H h h':=
 ⟨fun b ob q _ _ _=>k b ob q,fun b ob q _ _ _=>⟨ob.slots,k b ob q⟩,fun _ _ _ n _=>n,fun b ob q _=>⟨ob,k b ob q⟩,fun _ _ q=>q,fun _ _ _ q=>q,fun _ ps q=>⟨#[],by rw[q];simp⟩⟩
theorem Un.refl:Un fs ex H H h h:=Un.kept fun _ _ q=>q
theorem Un.laid(k :∀b u,h.get? b=some u->h'.get? b=some u)(hp:h.objs.size<=a)(hn:H a=none):Un fs ex H (upd H a o) h h' where
 keep:=fun b u q _ _ _=>k b u q
 slot:=fun b u q _ _ _=>⟨u.slots,k b u q⟩
 free:=fun b u q n _=>by rw[zf (Nat.ne_of_lt (Nat.lt_of_lt_of_le (Heap.lt_size q) hp))];exact n
 there:=fun b u q _=>⟨u,k b u q⟩
 tups:=fun b xs q=>by rw[zf (zk q hn)];exact q
 frzs:=fun b u xs q=>by rw[zf (zk q hn)];exact q
 tbls:=fun b ps q=>⟨#[],by rw[zf (zk q hn),q];simp⟩
theorem Un.write(mu:Mut (H x))(he:e=x\/H e=some (.own x))(k :∀b u,b≠e->h.get? b=some u->h'.get? b=some u)(heo :∃u,h'.get? e=some u):Un fs ex H (upd H x o) h h':=by
 have hx :∀b,H b=none->b≠x:=fun b n z=>by subst z;rw[n]at mu;exact mu
 have hb :∀b,H b=none->b≠e:=fun b n z=>by
  subst z
  rcases he with r|r
  ·exact hx b n r
  ·rw[n]at r;cases r
 have hm :∀b u,H b=some u->¬Mut (some u)->b≠x:=fun b u q nm z=>by subst z;rw[q]at mu;exact nm mu
 refine⟨fun b u q n _ _=>k b u (hb b n) q,fun b u q n _ _=>⟨u.slots,k b u (hb b n) q⟩,fun b u q n _=>by rw[zf (hx b n)];exact n,fun b u q _=>?_,
  fun b xs q=>by rw[zf (hm b _ q fun z=>z)];exact q,fun b u xs q=>by rw[zf (hm b _ q fun z=>z)];exact q,fun b ps q=>⟨#[],by rw[zf (hm b _ q fun z=>z),q];simp⟩⟩
 by_cases hbe:b=e
 ·subst hbe;exact heo
 ·exact⟨u,k b u hbe q⟩
end
def trk(h:Heap)(H:Hp):List Addr:=(List.range h.objs.size).filter fun a=>(H a).isSome
def hidT(h:Heap)(H:Hp):Heap:=PySem.W.hideAll h (trk h H)
theorem zx7(h:Heap)(H:Hp):(hidT h H).objs.size=h.objs.size:=PySem.W.hideAll_size _ _
theorem zze{h:Heap}{H:Hp}{b:Addr}{o:Obj}(e:h.get? b=some o)(n:H b=none):(hidT h H).get? b=some o:=
 PySem.W.hideAll_get _ e fun hm=>by
  have q:(H b).isSome=true:=(List.mem_filter.mp hm).2
  rw[n]at q;simp at q
theorem zAk{h:Heap}{H:Hp}{b:Addr}{o:Obj}(e:(hidT h H).get? b=some o):h.get? b=some o/\H b=none:=by
 have e':h.get? b=some o:=PySem.W.of_hideAll (trk h H) e
 refine⟨e',?_⟩
 cases q:H b with
 | none=>rfl
 | some x=>
  have hm:b∈trk h H:=List.mem_filter.mpr ⟨List.mem_range.mpr (Heap.lt_size e'),by simp[q]⟩
  have z:(hidT h H).get? b=none:=PySem.W.hideAll_none (trk h H) hm
  rw[z]at e;cases e
structure Mod(K:Fg)(mg:Str->Option Value)(base:Heap):Prop where
 kin:K.In base
 glob:base.Ns mainGlobals mg
 blt :∃mb,base.Ns builtinsNs mb/\∀x:Str,x≠"__name__"->mb x=bootBuiltins x
 nolimit:base.NoLimit
structure Cx where
 prog:Program
 w:World
 K:Fg
 mg:Str->Option Value
 base:Heap
 A:Around
 N:List Str
 s_0:Shared
 H_0:Hp
 env:Env
 outer:List Env
 stack:List Env
 ex:List Addr
 fn:Str->Bool
 calm:Bool
 pn:List (Addr×Obj)
 xe:Value->Shared->Prop
def frs(l:List Env):List Addr:=l.filterMap (·.frame)
abbrev Cx.fs(X:Cx):List Addr:=frs X.outer
def Vis(sc:Scope)(x:Str):Prop:=sc.names.lookup x=some .local\/sc.names.lookup x=some .cell\/sc.names.lookup x=some .free
def Loc(sc:Scope)(x:Str):Prop:=sc.names.lookup x=some .local\/sc.names.lookup x=some .cell
def Look(env:Env)(h:Heap)(m:Str->Option Value)(x:Str)(u:Value):Prop:=
 (env.kindOf x=some .local/\m x=some u)\/((env.kindOf x=some .cell\/env.kindOf x=some .free)/\∃c,env.cells.lookup x=some c/\h.IsCell c (some u))
structure Cx.Ok(X:Cx):Prop where
 mod:Mod X.K X.mg X.base
 kind:X.env.scope.kind=.function
 glob:X.env.globals=mainGlobals
 blt:X.env.builtins=builtinsNs
 above:X.s_0.heap.objs.size<=X.env.locals
 inj :∀x y c,X.env.cells.lookup x=some c->X.env.cells.lookup y=some c->x=y
 has :∀x,(X.env.kindOf x=some .cell\/X.env.kindOf x=some .free)->∃c,X.env.cells.lookup x=some c
 cab :∀x c,X.fn x=true->X.env.cells.lookup x=some c->X.s_0.heap.objs.size<=c
 hd:X.calm=true->X.A.handled=none
 frames:X.A.frames=some X.stack
 stk:X.stack=X.outer\/(X.stack=X.env::X.outer/\X.env.frame=some X.env.locals)
 exf :∀b∈X.ex,b≠X.env.locals/\∀x c,X.env.cells.lookup x=some c->c≠b
 bs :∀b o,X.base.get? b=some o->X.s_0.heap.get? b=some o/\X.H_0 b=none
 bsz:X.base.objs.size<=X.s_0.heap.objs.size
 noex :∀b o,X.base.get? b=some o->b∉X.ex
 exfs :∀b∈X.ex,b∉X.fs
 funs:X.s_0.heap.FunFrames X.base X.outer
 frf :∀b∈X.fs,X.H_0 b=none
structure Inv(X:Cx)(pins:List (Addr×Obj))(σ:List (Option V))(H:Hp)(s:Shared):Prop where
 ok:X.Ok
 os:s.os=X.s_0.os
 bare:AllBare s.gens
 base:Un X.fs X.ex X.H_0 H X.s_0.heap s.heap
 loc :∃m,s.heap.Ns X.env.locals m/\∀(i:Nat) (x:Str) (v:V),X.N[i]? = some x->σ[i]? = some (some v)->Vis X.env.scope x->∃u,zZ v u/\Look X.env s.heap m x u
 cell :∀x c,X.env.cells.lookup x=some c->∃v,s.heap.IsCell c v
 free:H X.env.locals=none
 freeC :∀x c,X.env.cells.lookup x=some c->H c=none
 pin :∀p∈X.pn++pins,s.heap.get? p.1=some p.2/\H p.1=none/\p.1≠X.env.locals/\p.1∉X.fs/\∀v,p.2.data≠.cell v
 hok:HOk X.prog X.w H s.heap
 len:σ.length=X.N.length
section
variable {X:Cx}{pins:List (Addr×Obj)}{σ:List (Option V)}{H H':Hp}{s:Shared}{h':Heap}
theorem Cx.Ok.nofr(ok:X.Ok){b:Addr}{o:Obj}(e:X.base.get? b=some o):b∉X.fs:=fun hb=>by
 have:=(ok.funs.mem hb).1
 rw[e]at this;cases this
theorem Inv.bs(I:Inv X pins σ H s) :∀b o,X.base.get? b=some o->s.heap.get? b=some o/\H b=none:=fun b o e=>
 ⟨I.base.keep b o (I.ok.bs b o e).1 (I.ok.bs b o e).2 (I.ok.nofr e) (I.ok.noex b o e),I.base.free b o (I.ok.bs b o e).1 (I.ok.bs b o e).2 (I.ok.noex b o e)⟩
theorem Inv.bk(I:Inv X pins σ H s) :∀b o,X.base.get? b=some o->s.heap.get? b=some o:=fun b o e=>(I.bs b o e).1
theorem Inv.mod(I:Inv X pins σ H s):Mod X.K X.mg X.base:=I.ok.mod
theorem Inv.kIn(I:Inv X pins σ H s):X.K.In s.heap:=I.ok.mod.kin.keeps I.bk
theorem Inv.nolimit(I:Inv X pins σ H s):s.heap.NoLimit:=I.ok.mod.nolimit.keeps I.bk
theorem Inv.lt(I:Inv X pins σ H s):X.env.locals<s.heap.objs.size:=let⟨_,hn,_⟩:=I.loc;hn.lt
theorem Inv.sz(I:Inv X pins σ H s):X.s_0.heap.objs.size<=s.heap.objs.size:=nLt I.ok.above (Nat.le_of_lt I.lt)
theorem Inv.nofs(I:Inv X pins σ H s){a:Addr}(h:s.heap.objs.size<=a):a∉X.fs:=fun hb=>by
 obtain⟨_,o,ho,_⟩:=I.ok.funs.mem hb
 exact absurd (Nat.lt_of_lt_of_le (Heap.lt_size ho) (nLt I.sz h)) (Nat.lt_irrefl _)
theorem Inv.cne(I:Inv X pins σ H s) :∀x c,X.env.cells.lookup x=some c->c≠X.env.locals:=fun x c e z=>by
 obtain⟨v,o,ho,hd⟩:=I.cell x c e
 obtain⟨m,⟨o',es,ep,ho',hd',_⟩,_⟩:=I.loc
 rw[z,ho']at ho;cases ho;rw[hd']at hd;cases hd
theorem Inv.funs(I:Inv X pins σ H s):s.heap.FunFrames X.base X.outer:=by
 have all :∀(l:List Env),(∀b∈frs l,b∈X.fs)->X.s_0.heap.FunFrames X.base l->s.heap.FunFrames X.base l:=by
  intro l
  induction l with
  | nil=>intro _ _;trivial
  | cons env r ih=>
   intro hs hl
   obtain⟨hk,⟨L,o,hf,hn,ho,hd⟩,hr⟩:=hl
   have hL:L∈X.fs:=hs L (by unfold frs;rw[List.filterMap_cons,hf];exact lMs)
   obtain⟨sl,e⟩:=I.base.slot L o ho (I.ok.frf L hL) hL fun z=>I.ok.exfs L z hL
   exact⟨hk,⟨L,_,hf,hn,e,hd⟩,ih (fun b hb=>hs b (by unfold frs;rw[List.filterMap_cons,hf];exact lMc _ hb)) hr⟩
 exact all X.outer (fun _ hb=>hb) I.ok.funs
theorem Inv.stack(I:Inv X pins σ H s):s.heap.FunFrames X.base X.stack:=by
 rcases I.ok.stk with e|⟨e,hf⟩
 ·rw[e];exact I.funs
 ·rw[e]
  obtain⟨m,hn,_⟩:=I.loc
  refine .cons (by rw[I.ok.kind];decide) hf hn ?_ I.funs
  exact Heap.get?_none_of_le (nLt I.ok.bsz I.ok.above)
theorem Inv.stkSub(I:Inv X pins σ H s) :∀b∈frs X.stack,b∈X.env.locals::X.fs:=fun b hb=>by
 rcases I.ok.stk with e|⟨e,hf⟩
 ·rw[e]at hb;exact lMc _ hb
 ·rw[e]at hb
  unfold frs at hb
  rw[List.filterMap_cons,hf]at hb
  exact hb
theorem Inv.stkFree(I:Inv X pins σ H s) :∀b∈frs X.stack,H b=none:=fun b hb=>by
 rcases List.mem_cons.mp (I.stkSub b hb)with e|hb
 ·rw[e];exact I.free
 ·obtain⟨_,o,ho,_⟩:=I.ok.funs.mem hb
  exact I.base.free b o ho (I.ok.frf b hb) fun z=>I.ok.exfs b z hb
theorem Inv.step{g':Array GenState}{t':Nat}{d':Drawn}{ch:List Addr}(I:Inv X pins σ H s)
  (hch :∀b∈ch,(b∈X.ex\/X.s_0.heap.objs.size<=b)/\b≠X.env.locals/\(∀x c,X.env.cells.lookup x=some c->c≠b)/\∀p∈X.pn++pins,p.1≠b)
  (keep :∀b o,b≠X.env.locals->b∉X.fs->b∉ch->s.heap.get? b=some o->H b=none->h'.get? b=some o)
  (slot :∀b o,b≠X.env.locals->b∈X.fs->b∉ch->s.heap.get? b=some o->H b=none->∃sl,h'.get? b=some {o with slots:=sl}) (free :∀b o,b∉ch->s.heap.get? b=some o->H b=none->H' b=none)
  (there :∀b o,b∉ch->s.heap.get? b=some o->∃o',h'.get? b=some o')
  (tups :∀b xs,H b=some (.tup xs)->H' b=some (.tup xs)) (frzs :∀b o u,H b=some (.frz o u)->H' b=some (.frz o u)) (tbls :∀b ps,H b=some (.tbl ps)->∃more,H' b=some (.tbl (ps++more)))
  (ns :∀m,s.heap.Ns X.env.locals m->h'.Ns X.env.locals m) (hok:HOk X.prog X.w H' h') (hg:AllBare g') :
  Inv X pins σ H' {s with heap:=h',gens:=g',drawn:=d',toks:=t'}:=by
 have neL :∀b o,X.s_0.heap.get? b=some o->b≠X.env.locals:=fun b o e=>Nat.ne_of_lt (Nat.lt_of_lt_of_le (Heap.lt_size e) I.ok.above)
 have neC :∀b o,X.s_0.heap.get? b=some o->b∉X.ex->b∉ch:=fun b o e hx hb=>by
  rcases(hch b hb).1 with z|z
  ·exact hx z
  ·exact absurd (Nat.lt_of_lt_of_le (Heap.lt_size e) z) (Nat.lt_irrefl _)
 have cellK :∀x c,X.env.cells.lookup x=some c->∀v,s.heap.IsCell c v->h'.IsCell c v:=fun x c e v ⟨o,ho,hd⟩=>by
  have nch:c∉ch:=fun z=>(hch c z).2.2.1 x c e rfl
  by_cases hc:c∈X.fs
  ·obtain⟨sl,q⟩:=slot c o (I.cne x c e) hc nch ho (I.freeC x c e)
   exact⟨_,q,hd⟩
  ·exact⟨o,keep c o (I.cne x c e) hc nch ho (I.freeC x c e),hd⟩
 refine⟨I.ok,I.os,hg,⟨fun b o e n hb hx=>?_,fun b o e n hb hx=>?_,fun b o e n hx=>?_,fun b o e hx=>?_,fun b xs e=>tups b xs (I.base.tups b xs e),fun b o xs e=>frzs b o xs (I.base.frzs b o xs e),fun b ps e=>?_⟩,?_,fun x c e=>?_,?_,fun x c e=>?_,fun p hp=>?_,hok,I.len⟩
 ·exact keep b o (neL b o e) hb (neC b o e hx) (I.base.keep b o e n hb hx) (I.base.free b o e n hx)
 ·obtain⟨sl,e1⟩:=I.base.slot b o e n hb hx
  obtain⟨sl',e2⟩:=slot b _ (neL b o e) hb (neC b o e hx) e1 (I.base.free b o e n hx)
  exact⟨sl',e2⟩
 ·obtain⟨o',e1⟩:=I.base.there b o e hx
  exact free b o' (neC b o e hx) e1 (I.base.free b o e n hx)
 ·obtain⟨o',e1⟩:=I.base.there b o e hx
  exact there b o' (neC b o e hx) e1
 ·obtain⟨m1,e1⟩:=I.base.tbls b ps e
  obtain⟨m2,e2⟩:=tbls b _ e1
  exact⟨m1++m2,by rw[e2,Array.append_assoc]⟩
 ·obtain⟨m,hn,hl⟩:=I.loc
  refine⟨m,ns m hn,fun i x v e1 e2 e3=>?_⟩
  obtain⟨u,r,l⟩:=hl i x v e1 e2 e3
  refine⟨u,r,?_⟩
  rcases l with l|⟨k,c,e,z⟩
  ·exact .inl l
  ·exact .inr ⟨k,c,e,cellK x c e _ z⟩
 ·obtain⟨v,z⟩:=I.cell x c e
  exact⟨v,cellK x c e v z⟩
 ·obtain⟨m,⟨o,_,_,ho,_⟩,_⟩:=I.loc
  exact free _ o (fun z=>(hch _ z).2.1 rfl) ho I.free
 ·obtain⟨v,o,ho,hd⟩:=I.cell x c e
  exact free c o (fun z=>(hch c z).2.2.1 x c e rfl) ho (I.freeC x c e)
 ·obtain⟨e,n,ne,nf,d⟩:=I.pin p hp
  have nch:p.1∉ch:=fun z=>(hch p.1 z).2.2.2 p hp rfl
  exact⟨keep p.1 p.2 ne nf nch e n,free p.1 p.2 nch e n,ne,nf,d⟩
theorem Inv.un{t':Nat}(I:Inv X pins σ H s)(u:Un X.fs [] H H' s.heap h')(hok:HOk X.prog X.w H' h'):Inv X pins σ H' {s with heap:=h',toks:=t'}:=by
 obtain⟨m,⟨o,es,ep,ho,r⟩,_⟩:=id I.loc
 obtain⟨sl,hL⟩:=u.any ho I.free (by simp)
 exact I.step (g':=s.gens) (d':=s.drawn) (ch:=[]) (fun _ z=>nomatch z) (fun b o _ hb _ e n=>u.keep b o e n hb (by simp)) (fun b o _ hb _ e n=>u.slot b o e n hb (by simp)) (fun b o _ e n=>u.free b o e n (by simp)) (fun b o _ e=>u.there b o e (by simp)) u.tups u.frzs u.tbls (fun m' hm=>by
  obtain⟨o',es',ep',ho',r'⟩:=hm
  rw[ho]at ho';cases ho'
  exact⟨_,es',ep',hL,r'⟩) hok I.bare
theorem Inv.call{g':Array GenState}{t':Nat}{d':Drawn}{ch:List Addr}(I:Inv X pins σ H s)(u:Un (frs X.stack) ch H H' s.heap h')(hok:HOk X.prog X.w H' h')(hg:AllBare g')
  (hch :∀b∈ch,(b∈X.ex\/X.s_0.heap.objs.size<=b)/\b≠X.env.locals/\(∀x c,X.env.cells.lookup x=some c->c≠b)/\∀p∈X.pn++pins,p.1≠b) :
  Inv X pins σ H' {s with heap:=h',gens:=g',drawn:=d',toks:=t'}:=by
 obtain⟨m,⟨o,es,ep,ho,r⟩,_⟩:=id I.loc
 obtain⟨sl,hL⟩:=u.any ho I.free fun z=>(hch _ z).2.1 rfl
 exact I.step (ch:=ch) hch (fun b o hL hb hc e n=>u.keep b o e n (fun z=>(List.mem_cons.mp (I.stkSub b z)).elim hL hb) hc) (fun b o _ _ hc e n=>u.any e n hc) (fun b o hc e n=>u.free b o e n hc) (fun b o hc e=>u.there b o e hc) u.tups u.frzs u.tbls (fun m' hm=>by
  obtain⟨o',es',ep',ho',r'⟩:=hm
  rw[ho]at ho';cases ho'
  exact⟨_,es',ep',hL,r'⟩) hok hg
theorem Inv.turned{t':Nat}{it:Addr}(I:Inv X pins σ H s)(k :∀b o,b≠it->s.heap.get? b=some o->h'.get? b=some o)(hn:H it=none)(hL:it≠X.env.locals)
  (h1:it∈X.ex\/X.s_0.heap.objs.size<=it) (h2 :∀x c,X.env.cells.lookup x=some c->c≠it) (h3 :∀p∈X.pn++pins,p.1≠it):Inv X pins σ H {s with heap:=h',toks:=t'}:=by
 have nit :∀b u,H b=some u->b≠it:=fun b u e z=>by rw[z,hn]at e;cases e
 refine I.step (g':=s.gens) (d':=s.drawn) (ch:=[it]) (fun b hb=>?_) (fun b o _ _ hc e _=>k b o (fun z=>hc (by simp[z])) e) (fun b o _ _ hc e _=>⟨o.slots,k b o (fun z=>hc (by simp[z])) e⟩) (fun _ _ _ _ n=>n)
  (fun b o hc e=>⟨o,k b o (fun z=>hc (by simp[z])) e⟩) (fun _ _ e=>e) (fun _ _ _ e=>e) (fun b ps e=>⟨#[],by rw[e];simp⟩) (fun m hm=>?_) (fun b u e=>?_) I.bare
 ·have e:b=it:=by simpa using hb
  subst e
  exact⟨h1,hL,h2,h3⟩
 ·obtain⟨o,es,ep,ho,r⟩:=hm
  exact⟨o,es,ep,k _ o (Ne.symm hL) ho,r⟩
 ·refine(I.hok b u e).stay (fun c v hc q=>k c v ?_ q) (fun _ q=>q) fun _ _ q=>q
  rcases hc with z|z
  ·rw[z];exact nit b u e
  ·exact nit c _ z
theorem Inv.tok(I:Inv X pins σ H s)(t:Nat):Inv X pins σ H {s with toks:=t}:=I.un (h':=s.heap) (t':=t) Un.refl I.hok
theorem Inv.kept{t':Nat}(I:Inv X pins σ H s)(k :∀b u,s.heap.get? b=some u->h'.get? b=some u):Inv X pins σ H {s with heap:=h',toks:=t'}:=I.un (Un.kept k) (I.hok.kept k)
theorem Inv.laid{a:Addr}{o:HO}{t':Nat}(I:Inv X pins σ H s)(k :∀b u,s.heap.get? b=some u->h'.get? b=some u)(hp:s.heap.objs.size<=a)(new:zbr X.prog X.w (upd H a o) h' a o) :
  Inv X pins σ (upd H a o) {s with heap:=h',toks:=t'}:=I.un (Un.laid k hp (I.hok.fresh hp)) (I.hok.laid k hp new)
theorem Inv.write{x e:Addr}{o:HO}{t':Nat}(I:Inv X pins σ H s)(mu:Mut (H x))(he:e=x\/H e=some (.own x))(k :∀b u,b≠e->s.heap.get? b=some u->h'.get? b=some u)(heo :∃u,h'.get? e=some u)
  (new:zbr X.prog X.w (upd H x o) h' x o):Inv X pins σ (upd H x o) {s with heap:=h',toks:=t'}:=I.un (Un.write mu he k heo) (I.hok.write mu he k heo new)
theorem Inv.weak{σ':List (Option V)}(I:Inv X pins σ H s)(hl:σ'.length = σ.length)(w :∀(i:Nat) v,σ'[i]? = some (some v)->σ[i]? = some (some v)):Inv X pins σ' H s:=
 ⟨I.ok,I.os,I.bare,I.base,let⟨m,hn,hl'⟩:=I.loc;⟨m,hn,fun i x v e1 e2 e3=>hl' i x v e1 (w i v e2) e3⟩,I.cell,I.free,I.freeC,I.pin,I.hok,hl.trans I.len⟩
theorem Inv.pins_of{pins':List (Addr×Obj)}(I:Inv X pins σ H s)(h :∀p∈pins',s.heap.get? p.1=some p.2/\H p.1=none/\p.1≠X.env.locals/\p.1∉X.fs/\∀v,p.2.data≠.cell v):Inv X pins' σ H s:=
 ⟨I.ok,I.os,I.bare,I.base,I.loc,I.cell,I.free,I.freeC,fun p hp=>(List.mem_append.mp hp).elim (fun z=>I.pin p (List.mem_append_left _ z)) (h p),I.hok,I.len⟩
theorem zpl{N:List Str}(hN:N.Nodup){i j:Nat}{x:Str}(a:N[i]? = some x)(b:N[j]? = some x):i=j:=by
 obtain⟨h1,e1⟩:=List.getElem?_eq_some_iff.mp a
 obtain⟨h2,e2⟩:=List.getElem?_eq_some_iff.mp b
 exact(List.getElem_inj hN).mp (e1.trans e2.symm)
theorem zr4{M:Model}{A:Around}{E:Value->Shared->Prop}{i:Nat}{x:Str}{v:V}{u:Value}{Q:Unit->Shared->Prop}(I:Inv X pins σ H s)(hN:X.N.Nodup)(hi:X.N[i]? = some x)(hx:Loc X.env.scope x)(r:zZ v u)
  (h :∀s',Inv X pins (σ.set i (some v)) H s'->(∃a,Heap.SameBut a s.heap s'.heap/\(a=X.env.locals\/X.env.cells.lookup x=some a))->Q () s') (hf:X.fn x=true\/X.env.scope.names.lookup x=some .local:=by first|exact .inl rfl|exact .inr rfl|assumption):wpAny M A (storeName X.env x u) Q E s:=by
 obtain⟨m,hn,hl⟩:=id I.loc
 have hcls:(X.env.scope.kind==.class || (X.env.scope.kind==.module&&X.env.locals != X.env.globals))=false:=by rw[I.ok.kind];rfl
 have hiσ:i < σ.length:=by rw[I.len];exact(List.getElem?_eq_some_iff.mp hi).1
 have cne:=I.cne
 have tracked :∀{a:Addr} {h':Heap},(∃o,s.heap.get? a=some o/\H a=none)->Heap.SameBut a s.heap h'->HOk X.prog X.w H h':=fun {a h'} ha hs b ob e=>by
  obtain⟨_,_,hfree⟩:=ha
  refine(I.hok b ob e).stay (fun c w' hc q=>(hs.2 c ?_).trans q) (fun _ q=>q) fun _ _ q=>q
  rintro rfl
  rcases hc with rfl|hc
  ·rw[hfree]at e;cases e
  ·rw[hfree]at hc;cases hc
 rcases hx with hk|hk
 ·refine wpAny_storeName_local hk hn (fun h' hn' hs=>?_) hcls
  obtain⟨oL,_,_,hoL,_⟩:=id hn
  refine h _ ⟨I.ok,I.os,I.bare,⟨fun b o e n hb hx=>?_,fun b o e n hb hx=>?_,I.base.free,fun b o e hx=>?_,I.base.tups,I.base.frzs,I.base.tbls⟩,⟨_,hn',fun j y v' e1 e2 e3=>?_⟩,fun y c e=>?_,I.free,I.freeC,fun p hp=>?_,tracked ⟨oL,hoL,I.free⟩ hs,by simpa using I.len⟩ ⟨_,hs,.inl rfl⟩
  ·exact(hs.2 b (Nat.ne_of_lt (Nat.lt_of_lt_of_le (Heap.lt_size e) I.ok.above))).trans (I.base.keep b o e n hb hx)
  ·obtain⟨sl,e1⟩:=I.base.slot b o e n hb hx
   exact⟨sl,(hs.2 b (Nat.ne_of_lt (Nat.lt_of_lt_of_le (Heap.lt_size e) I.ok.above))).trans e1⟩
  ·obtain⟨o',e1⟩:=I.base.there b o e hx
   exact⟨o',(hs.2 b (Nat.ne_of_lt (Nat.lt_of_lt_of_le (Heap.lt_size e) I.ok.above))).trans e1⟩
  ·by_cases hj:j=i
   ·subst hj
    rw[hi]at e1;cases e1
    rw[List.getElem?_set_self hiσ]at e2
    cases e2
    exact⟨u,r,.inl ⟨hk,by simp⟩⟩
   ·rw[List.getElem?_set_ne (Ne.symm hj)]at e2
    obtain⟨u',r',q⟩:=hl j y v' e1 e2 e3
    refine⟨u',r',?_⟩
    rcases q with⟨k,e⟩|⟨k,c,e,z⟩
    ·refine .inl ⟨k,?_⟩
     have:y≠x:=fun e=>hj (zpl hN e1 (e▸hi))
     simp[this,e]
    ·exact .inr ⟨k,c,e,z.sameBut hs (cne y c e)⟩
  ·obtain⟨w',z⟩:=I.cell y c e
   exact⟨w',z.sameBut hs (cne y c e)⟩
  ·obtain⟨e,n,ne,nf,d⟩:=I.pin p hp
   exact⟨(hs.2 p.1 ne).trans e,n,ne,nf,d⟩
 ·have hfn:X.fn x=true:=by
   rcases hf with z|z
   ·exact z
   ·rw[z]at hk;cases hk
  obtain⟨c,hc⟩:=I.ok.has x (.inl hk)
  obtain⟨w',z⟩:=I.cell x c hc
  refine wpAny_storeName_cell I.ok.kind hk hc z (fun h' hc' hs=>?_)
  obtain⟨oc,hoc,hocd⟩:=id z
  refine h {s with heap:=h'} ⟨I.ok,I.os,I.bare,⟨fun b o e n hb hx=>?_,fun b o e n hb hx=>?_,I.base.free,fun b o e hx=>?_,I.base.tups,I.base.frzs,I.base.tbls⟩,⟨m,hn.sameBut hs (Ne.symm (cne x c hc)),fun j y v' e1 e2 e3=>?_⟩,fun y c' e=>?_,I.free,I.freeC,fun p hp=>?_,tracked ⟨oc,hoc,I.freeC x c hc⟩ hs,by simpa using I.len⟩ ⟨c,hs,.inr hc⟩
  ·exact(hs.2 b (Nat.ne_of_lt (Nat.lt_of_lt_of_le (Heap.lt_size e) (I.ok.cab x c hfn hc)))).trans (I.base.keep b o e n hb hx)
  ·obtain⟨sl,e1⟩:=I.base.slot b o e n hb hx
   exact⟨sl,(hs.2 b (Nat.ne_of_lt (Nat.lt_of_lt_of_le (Heap.lt_size e) (I.ok.cab x c hfn hc)))).trans e1⟩
  ·obtain⟨o',e1⟩:=I.base.there b o e hx
   exact⟨o',(hs.2 b (Nat.ne_of_lt (Nat.lt_of_lt_of_le (Heap.lt_size e) (I.ok.cab x c hfn hc)))).trans e1⟩
  ·by_cases hj:j=i
   ·subst hj
    rw[hi]at e1;cases e1
    rw[List.getElem?_set_self hiσ]at e2
    cases e2
    exact⟨u,r,.inr ⟨.inl hk,c,hc,hc'⟩⟩
   ·rw[List.getElem?_set_ne (Ne.symm hj)]at e2
    obtain⟨u',r',q⟩:=hl j y v' e1 e2 e3
    refine⟨u',r',?_⟩
    rcases q with q|⟨k,c',e,z'⟩
    ·exact .inl q
    ·refine .inr ⟨k,c',e,z'.sameBut hs ?_⟩
     rintro rfl
     exact hj (zpl hN e1 (I.ok.inj _ _ _ e hc▸hi))
  ·by_cases hcc:c'=c
   ·subst hcc;exact⟨_,hc'⟩
   ·obtain⟨w2,z2⟩:=I.cell y c' e
    exact⟨w2,z2.sameBut hs hcc⟩
  ·obtain⟨e,n,ne,nf,d⟩:=I.pin p hp
   refine⟨(hs.2 p.1 ?_).trans e,n,ne,nf,d⟩
   intro q
   rw[q,hoc]at e
   have q':oc=p.2:=oSi e
   exact d w' (by rw[<-q'];exact hocd)
theorem zpm{M:Model}{A:Around}{E:Value->Shared->Prop}{i:Nat}{x:Str}{v:V}{u:Value}{Q:Unit->Shared->Prop}(I:Inv X pins σ H s)(hN:X.N.Nodup)(hi:X.N[i]? = some x)(hx:Loc X.env.scope x)(r:zZ v u)
  (h :∀s',Inv X pins (σ.set i (some v)) H s'->Q () s') (hf:X.fn x=true\/X.env.scope.names.lookup x=some .local:=by first|exact .inl rfl|exact .inr rfl|assumption):wpAny M A (storeName X.env x u) Q E s:=
 zr4 I hN hi hx r (fun s' I' _=>h s' I') hf
theorem Inv.call'{s':Shared}{ch:List Addr}(I:Inv X pins σ H s)(ho:s'.os=s.os)(u:Un (frs X.stack) ch H H' s.heap s'.heap)(hok:HOk X.prog X.w H' s'.heap)(hg:AllBare s'.gens)
  (hch :∀b∈ch,(b∈X.ex\/X.s_0.heap.objs.size<=b)/\b≠X.env.locals/\(∀x c,X.env.cells.lookup x=some c->c≠b)/\∀p∈X.pn++pins,p.1≠b):Inv X pins σ H' s':=by
 obtain⟨h',g',d',t',o'⟩:=s'
 have e:o'=s.os:=ho
 subst e
 exact I.call (g':=g') (t':=t') (d':=d') u hok hg hch
end
abbrev XK:=Value->Option Addr->Hp->Prop
abbrev St:=List (Option V)
abbrev VK:=V->Hp->Prop
abbrev TE:=St->Hp->VK->Prop
abbrev TT:=St->Hp->(Bool->Hp->Prop)->Prop
abbrev TA:=St->Hp->(List V->Hp->Prop)->Prop
structure Ends where
 nx:St->Hp->Prop
 rt:VK
 bk:St->Hp->Prop:=fun _ _=>False
 ct:St->Hp->Prop:=fun _ _=>False
abbrev TS:=Ends->St->Hp->Prop
inductive EP(X:Cx)(pins:List (Addr×Obj))(σ:St)(Q:VK)(u:Value)(s:Shared):Prop|I:∀v H,Inv X pins σ H s->zZ v u->Q v H->EP X pins σ Q u s
def TP(X:Cx)(pins:List (Addr×Obj))(σ:St)(Q:Bool->Hp->Prop)(b:Bool)(s':Shared):Prop:=∃H',Inv X pins σ H' s'/\Q b H'
inductive AP(X:Cx)(pins:List (Addr×Obj))(σ:St)(Q:List V->Hp->Prop)(u:List Value)(s:Shared):Prop|I:∀v H,Inv X pins σ H s->zQ v u->Q v H->AP X pins σ Q u s
def SP(X:Cx)(pins:List (Addr×Obj))(D:Ends)(f:Flow)(s':Shared):Prop:=
 match f with
 | .next=>∃σ' H',Inv X pins σ' H' s'/\D.nx σ' H'
 | .brk=>∃σ' H',Inv X pins σ' H' s'/\D.bk σ' H'
 | .cont=>∃σ' H',Inv X pins σ' H' s'/\D.ct σ' H'
 | .ret u=>∃v σ' H',Inv X pins σ' H' s'/\zZ v u/\D.rt v H'
def PE(X:Cx)(e:Expr)(t:TE):Prop:=
 ∀(pins:List (Addr×Obj)) (s:Shared) (σ:St) (H:Hp) (Q:VK),Inv X pins σ H s->t σ H Q->wpAny (model X.prog X.w) X.A (eval e X.env) (EP X pins σ Q) X.xe s
def PT(X:Cx)(e:Expr)(t:TT):Prop:=
 ∀(pins:List (Addr×Obj)) (s:Shared) (σ:St) (H:Hp) (Q:Bool->Hp->Prop),Inv X pins σ H s->t σ H Q->wpAny (model X.prog X.w) X.A (isTrue e X.env (eval e X.env)) (TP X pins σ Q) X.xe s
def PW(X:Cx)(e:Expr)(t:TT):Prop:=
 ∀(whole:Sem Value) (pins:List (Addr×Obj)) (s:Shared) (σ:St) (H:Hp) (Q:Bool->Hp->Prop),Inv X pins σ H s->t σ H Q->wpAny (model X.prog X.w) X.A (isTrue e X.env whole) (TP X pins σ Q) X.xe s
theorem PW.pt{X:Cx}{e:Expr}{t:TT}(h:PW X e t):PT X e t:=h _
def PA(X:Cx)(es:List Expr)(t:TA):Prop:=
 ∀(pos:Pos) (pins:List (Addr×Obj)) (s:Shared) (σ:St) (H:Hp) (Q:List V->Hp->Prop),Inv X pins σ H s->t σ H Q->wpAny (model X.prog X.w) X.A (spliced (backTo pos (starEach es X.env))) (AP X pins σ Q) X.xe s
def PS(X:Cx)(st:Stmt)(t:TS):Prop:=
 ∀(pins:List (Addr×Obj)) (s:Shared) (σ:St) (H:Hp) (D:Ends),Inv X pins σ H s->t D σ H->wpAny (model X.prog X.w) X.A (exec st X.env) (SP X pins D) X.xe s
def PSs(X:Cx)(st:List Stmt)(t:TS):Prop:=
 ∀(pins:List (Addr×Obj)) (s:Shared) (σ:St) (H:Hp) (D:Ends),Inv X pins σ H s->t D σ H->wpAny (model X.prog X.w) X.A (execs st X.env) (SP X pins D) X.xe s
theorem thn{α:Type}{t:Sem α}{Q Q':α->Shared->Prop}{M:Model}{A:Around}{E:Value->Shared->Prop}{s:Shared}(h:wpAny M A t Q E s)(hQ :∀a s,Q a s->Q' a s):wpAny M A t Q' E s:=wpAny_mono h hQ fun _ _ x=>x
section
variable {X:Cx}
theorem zHd{G:Prop}(h:let g:=G;g):G:=h
inductive zbd(i:Nat)(σ:St)(H:Hp)(Q:VK):Prop|I:∀v,σ[i]? = some (some v)->Q v H->zbd i σ H Q
def tC(v:V):TE:=fun _ H Q=>Q v H
theorem zBt{i:Nat}{x:Str}{pos:Pos}(hN:X.N[i]? = some x)(hv:Vis X.env.scope x)(hd:(x==("__debug__" : Str))=false:=by decide) (hcd:(x==("__classdict__" : Str))=false:=by decide):PE X (.Name x pos) (zbd i):=by
 intro pins s σ H Q I h
 obtain⟨v,e,h⟩:=h
 obtain⟨m,hn,hl⟩:=I.loc
 obtain⟨u,r,l⟩:=hl i x v hN e hv
 have fin:EP X pins σ Q u s:=⟨v,H,I,r,h⟩
 rcases l with⟨hk,hm⟩|⟨hk,c,hc,hcell⟩
 ·exact wpAny_Name (wpAny_loadName_local I.ok.kind hk hn hm fin) hd
 ·rcases hk with hk|hk
  ·exact wpAny_Name (wpAny_loadName_cell I.ok.kind hk hc hcell fin) hd
  ·exact wpAny_Name (wpAny_loadName_free I.ok.kind hk hc hcell fin hcd) hd
theorem zi{i j pos}:PE X (.Constant (.int i) j pos) (tC (.int i)):=fun _ _ _ H _ I h=>wpAny_Constant_int ⟨.int i,H,I.tok _,⟨_,rfl⟩,h⟩
theorem zeO{b j pos}:PE X (.Constant (.bool b) j pos) (tC (.bl b)):=fun _ _ _ H _ I h=>Constant_bool ⟨.bl b,H,I,rfl,h⟩
theorem zpZ{j pos}:PE X (.Constant .none j pos) (tC .non):=fun _ _ _ H _ I h=>Constant_none ⟨.non,H,I,rfl,h⟩
def Gl(X:Cx)(x:Str):Prop:=X.env.kindOf x=some .globalImplicit
theorem zn8{E:Value->Shared->Prop}{pins:List (Addr×Obj)}{s:Shared}{σ:St}{H:Hp}{x:Str}{u:Value}{pos:Pos}{Q:Value->Shared->Prop}(I:Inv X pins σ H s)(hg:Gl X x)(hm:X.mg x=some u)(h:Q u s)
  (hd:(x==("__debug__" : Str))=false:=by decide):wpAny (model X.prog X.w) X.A (eval (.Name x pos) X.env) Q E s:=
 Calls.Name_function_global I.ok.kind hg (Calls.loadGlobal_global (by rw[I.ok.glob];exact I.mod.glob.keeps I.bk) hm h) hd
theorem zi2{E:Value->Shared->Prop}{pins:List (Addr×Obj)}{s:Shared}{σ:St}{H:Hp}{x:Str}{u:Value}{pos:Pos}{Q:Value->Shared->Prop}(I:Inv X pins σ H s)(hg:Gl X x)(hm:X.mg x=none)(hv:bootBuiltins x=some u)(h:Q u s)
  (hn:x≠"__name__":=by decide) (hd:(x==("__debug__" : Str))=false:=by decide):wpAny (model X.prog X.w) X.A (eval (.Name x pos) X.env) Q E s:=by
 obtain⟨mb,h1,h2⟩:=I.mod.blt
 exact Calls.Name_function_global I.ok.kind hg (Calls.loadGlobal_builtin (by rw[I.ok.glob];exact I.mod.glob.keeps I.bk) hm (by rw[I.ok.blt];exact h1.keeps I.bk) ((h2 x hn).trans hv) h) hd
theorem zn9{x:Str}{v:V}{u:Value}{pos:Pos}(hg:Gl X x)(hm:X.mg x=some u)(r:zZ v u)(hd:(x==("__debug__" : Str))=false:=by decide):PE X (.Name x pos) (tC v):=
 fun _ _ _ H _ I h=>zn8 I hg hm ⟨v,H,I,r,h⟩ hd
variable {a b:Expr}{ta tb:TE}{pos:Pos}
def PC(X:Cx)(op:CmpOp)(a b:Expr)(t:TE):Prop:=
 ∀(pins:List (Addr×Obj)) (s:Shared) (σ:St) (H:Hp) (Q:VK),Inv X pins σ H s->t σ H Q->
  wpAny (model X.prog X.w) X.A (eval a X.env) (fun v s₁=>wpAny (model X.prog X.w) X.A (eval b X.env) (fun u s₂=>wpAny (model X.prog X.w) X.A (compareOp op v u) (EP X pins σ Q) X.xe s₂) X.xe s₁) X.xe s
theorem ztD(b:Expr){op:CmpOp}(h:op≠.In)(h2:op≠.NotIn):behindInMarks op b=false:=by
 have e1:(op==CmpOp.In)=false:=by cases op<;>first|rfl|exact absurd rfl h
 have e2:(op==CmpOp.NotIn)=false:=by cases op<;>first|rfl|exact absurd rfl h2
 cases b<;>simp[behindInMarks,e1,e2]
def tIsN(ta:TE):TE:=fun σ H Q=>ta σ H fun x H1=>Q (.bl (decide (x=.non))) H1
def tNotN(ta:TE):TE:=fun σ H Q=>ta σ H fun x H1=>Q (.bl (!decide (x=.non))) H1
theorem zZ.none_iff{x:V}{v:Value}(r:zZ x v):(v==Value.none)=decide (x=.non):=by
 cases x with
 | non=>cases r;rfl
 | bl _=>cases r;rfl
 | int _=>obtain⟨t,rfl⟩:=r;rfl
 | str _=>obtain⟨t,rfl⟩:=r;rfl
 | byt _=>obtain⟨t,rfl⟩:=r;rfl
 | flt _=>obtain⟨t,rfl⟩:=r;rfl
 | ref _=>cases r;rfl
 | ty _=>cases r;rfl
theorem ztE{j pos'}(ha:PE X a ta):PC X .Is a (.Constant .none j pos') (tIsN ta):=by
 intro pins s σ H Q I h
 refine thn (ha pins s σ H _ I h) fun v s1 ⟨x,H1,I1,r1,q1⟩=>?_
 exact Constant_none (is_none_gen ⟨.bl _,H1,I1,by rw[r1.none_iff];rfl,q1⟩)
theorem zoa{j pos'}(ha:PE X a ta):PC X .IsNot a (.Constant .none j pos') (tNotN ta):=by
 intro pins s σ H Q I h
 refine thn (ha pins s σ H _ I h) fun v s1 ⟨x,H1,I1,r1,q1⟩=>?_
 exact Constant_none (isnot_none_gen ⟨.bl _,H1,I1,by rw[r1.none_iff];rfl,q1⟩)
inductive JB(x:V)(H:Hp)(Q:Bool->Hp->Prop):Prop|I:∀c,x=.bl c->Q c H->JB x H Q
def tB(t:TE):TT:=fun σ H Q=>t σ H fun x H1=>JB x H1 Q
theorem zp0{op:CmpOp}{t:TE}(h:PC X op a b t)(h1:behindInMarks op b=false:=by first|exact ztD _ (by decide) (by decide)|rfl):PE X (.Compare a [op] [b] pos) t:=fun pins s σ H Q I hw=>wpAny_Compare1 (h pins s σ H Q I hw) h1
theorem ztF{op:CmpOp}{t:TE}(h:PC X op a b t)(h1:behindInMarks op b=false:=by first|exact ztD _ (by decide) (by decide)|rfl):PT X (.Compare a [op] [b] pos) (tB t):=by
 intro pins s σ H Q I hw
 refine wpAny_isTrue_Compare1 (thn (h pins s σ H _ I hw) fun v s1 h1=>thn h1 fun u s2 h2=>thn h2 fun c s3 ⟨x,H1,I1,r1,q1⟩=>?_) h1
 obtain⟨d,rfl,q⟩:=q1
 cases r1
 exact wpAny_truthy_bool ⟨H1,I1,q⟩
variable {tA tB':TT}{rest:List Expr}
def tAnd(t u:TT):TT:=fun σ H Q=>t σ H fun c H1=>if c=true then u σ H1 Q else Q false H1
def tNot(t:TT):TT:=fun σ H Q=>t σ H fun c H1=>Q (!c) H1
theorem ziV(ha:PT X a tA):PW X (.BoolOp .And [a] pos) tA:=by
 intro wh pins s σ H Q I h
 refine isTrue_and (thn (ha pins s σ H Q I h) fun c s1 e=>?_)
 cases c with
 | true=>exact isTrue_and_nil e
 | false=>exact e
theorem zkV(ha:PT X a tA)(hb:PW X (.BoolOp .And (b::rest) pos) tB'):PW X (.BoolOp .And (a::b::rest) pos) (tAnd tA tB'):=by
 intro wh pins s σ H Q I h
 refine isTrue_and (thn (ha pins s σ H _ I h) fun c s1 ⟨H1,I1,q1⟩=>?_)
 cases c with
 | true=>exact hb wh pins s1 σ H1 Q I1 q1
 | false=>exact⟨H1,I1,q1⟩
theorem zgo(ha:PT X a tA):PT X (.UnaryOp .Not a pos) (tNot tA):=by
 intro pins s σ H Q I h
 exact isTrue_not (ha pins s σ H (fun c H1=>Q (!c) H1) I h)
def tAndV(ta tb:TE):TE:=fun σ H Q=>ta σ H fun x H1=>∃c,x=.bl c/\if c=true then tb σ H1 Q else Q (.bl false) H1
theorem zi3{op}{t:TE}(h:PE X a t):PE X (.BoolOp op [a] pos) t:=fun pins s σ H Q I hw=>BoolOp_one (h pins s σ H Q I hw)
theorem zfG(ha:PE X a ta)(hb:PE X (.BoolOp .And (b::rest) pos) tb):PE X (.BoolOp .And (a::b::rest) pos) (tAndV ta tb):=by
 intro pins s σ H Q I h
 refine BoolOp_and (thn (ha pins s σ H _ I h) fun v s1 ⟨x,H1,I1,r1,q1⟩=>?_)
 obtain⟨c,rfl,q1⟩:=q1
 cases r1
 refine wpAny_truthy_bool ?_
 cases c with
 | true=>exact hb pins s1 σ H1 Q I1 q1
 | false=>exact⟨.bl false,H1,I1,rfl,q1⟩
def tIf(t:TT)(ta tb:TE):TE:=fun σ H Q=>t σ H fun c H1=>if c=true then ta σ H1 Q else tb σ H1 Q
theorem zlF{c:Expr}(hc:PT X c tA)(ha:PE X a ta)(hb:PE X b tb):PE X (.IfExp c a b pos) (tIf tA ta tb):=by
 intro pins s σ H Q I h
 refine wpAny_IfExp (thn (hc pins s σ H _ I h) fun d s1 ⟨H1,I1,q1⟩=>?_)
 cases d with
 | true=>exact ha pins s1 σ H1 Q I1 q1
 | false=>exact hb pins s1 σ H1 Q I1 q1
end
def SqL(K:Fg)(H:Hp)(a:Addr)(xs:List V):Prop:=
 Rd H a (.lst xs)\/
  ∃(o:Obj) (its:Array Value) (n:Nat),K.lookup a=some o/\o.cls=.type "list"/\o.dict=none/\o.data=.seq its n/\its.size<=sizeLine/\zQ xs its.toList
def SqT(K:Fg)(H:Hp)(a:Addr)(xs:List V):Prop:=
 Rd H a (.tup xs)\/
  ∃(o:Obj) (its:Array Value) (n:Nat),K.lookup a=some o/\o.cls=.type "tuple"/\o.data=.seq its n/\its.size<=sizeLine/\zQ xs its.toList
def absV:Value->Option V
 | .none=>some .non
 | .bool b=>some (.bl b)
 | .int i _=>some (.int i)
 | .str x _=>some (.str x)
 | .bytes b _=>some (.byt b)
 | .float b _=>some (.flt b)
 | .ref a=>some (.ref a)
 | .type n=>some (.ty n)
 | _=>none
theorem zZ.abs{x:V}{u:Value}(r:zZ x u):absV u=some x:=by
 cases x with
 | non=>cases r;rfl
 | bl _=>cases r;rfl
 | int _=>obtain⟨t,rfl⟩:=r;rfl
 | str _=>obtain⟨t,rfl⟩:=r;rfl
 | byt _=>obtain⟨t,rfl⟩:=r;rfl
 | flt _=>obtain⟨t,rfl⟩:=r;rfl
 | ref _=>cases r;rfl
 | ty _=>cases r;rfl
theorem zZ.inj{x y:V}{u:Value}(r:zZ x u)(q:zZ y u):x=y:=oSi (r.abs.symm.trans q.abs)
theorem zQ.inj :∀{xs ys:List V} {us:List Value},zQ xs us->zQ ys us->xs=ys
 | _,_,_,.nil,.nil=>rfl
 | _,_,_,.cons r t,.cons r' t'=>by rw[r.inj r',zQ.inj t t']
section
variable {X:Cx}{pins:List (Addr×Obj)}{σ:St}{H:Hp}{s:Shared}{a:Addr}{xs ys:List V}
theorem SqL.of{K:Fg}(h:H a=some (.lst xs)):SqL K H a xs:=.inl (.inl h)
theorem SqT.of{K:Fg}(h:H a=some (.tup xs)):SqT K H a xs:=.inl (.inl h)
theorem Inv.list(I:Inv X pins σ H s)(h:SqL X.K H a xs) :∃its:List Value,zQ xs its/\PlainL s.heap a its.toArray/\xs.length<=sizeLine:=by
 rcases h with h|⟨o,its,n,hk,hc,hd,hs,hz,r⟩
 ·obtain⟨z,its,n,r,e⟩:=h.ok I.hok
  exact⟨its,r,⟨_,n,e,rfl,rfl,rfl⟩,z⟩
 ·refine⟨its.toList,r,⟨o,n,I.kIn a o hk,hc,hd,by simpa using hs⟩,?_⟩
  have e:=r.length
  simp only[Array.length_toList]at e
  omega
theorem Inv.tuple(I:Inv X pins σ H s)(h:SqT X.K H a xs) :∃its:List Value,zQ xs its/\IsTup s.heap a its.toArray/\xs.length<=sizeLine:=by
 rcases h with h|⟨o,its,n,hk,hc,hs,hz,r⟩
 ·obtain⟨z,its,r,p⟩:=h.ok I.hok
  exact⟨its,r,p,z⟩
 ·refine⟨its.toList,r,⟨o,I.kIn a o hk,hc,n,by simpa using hs⟩,?_⟩
  have e:=r.length
  simp only[Array.length_toList]at e
  omega
theorem Inv.list_inj(I:Inv X pins σ H s)(h:SqL X.K H a xs)(h':SqL X.K H a ys):xs=ys:=by
 obtain⟨its,r,⟨o,n,e,_,_,d⟩,_⟩:=I.list h
 obtain⟨its',r',⟨o',n',e',_,_,d'⟩,_⟩:=I.list h'
 rw[e]at e';cases e'
 rw[d]at d'
 injection d' with d1 _
 have:its=its':=by simpa using congrArg Array.toList d1
 subst this
 exact r.inj r'
end
abbrev Cx.wish(X:Cx)(E:Value->Shared->Prop):Cx:={X with xe:=E}
abbrev Cx.nox(X:Cx):Cx:=X.wish fun _ _=>False
theorem Cx.Ok.wish{X:Cx}(ok:X.Ok)(E:Value->Shared->Prop):(X.wish E).Ok:=
 ⟨ok.mod,ok.kind,ok.glob,ok.blt,ok.above,ok.inj,ok.has,ok.cab,ok.hd,ok.frames,ok.stk,ok.exf,ok.bs,ok.bsz,ok.noex,ok.exfs,ok.funs,ok.frf⟩
theorem Cx.Ok.unwish{X:Cx}{E:Value->Shared->Prop}(ok:(X.wish E).Ok):X.Ok:=
 ⟨ok.mod,ok.kind,ok.glob,ok.blt,ok.above,ok.inj,ok.has,ok.cab,ok.hd,ok.frames,ok.stk,ok.exf,ok.bs,ok.bsz,ok.noex,ok.exfs,ok.funs,ok.frf⟩
section
variable {X:Cx}{pins:List (Addr×Obj)}{σ:St}{H:Hp}{s:Shared}{E:Value->Shared->Prop}
theorem Inv.wish(I:Inv X pins σ H s)(E:Value->Shared->Prop):Inv (X.wish E) pins σ H s:=⟨I.ok.wish E,I.os,I.bare,I.base,I.loc,I.cell,I.free,I.freeC,I.pin,I.hok,I.len⟩
theorem Inv.unwish(I:Inv (X.wish E) pins σ H s):Inv X pins σ H s:=⟨I.ok.unwish,I.os,I.bare,I.base,I.loc,I.cell,I.free,I.freeC,I.pin,I.hok,I.len⟩
theorem SP.unwish{D:Ends}{f:Flow}{s':Shared}(h:SP (X.wish E) pins D f s'):SP X pins D f s':=by
 cases f with
 | next=>obtain⟨σ',H',I,q⟩:=h;exact⟨σ',H',I.unwish,q⟩
 | brk=>obtain⟨σ',H',I,q⟩:=h;exact⟨σ',H',I.unwish,q⟩
 | cont=>obtain⟨σ',H',I,q⟩:=h;exact⟨σ',H',I.unwish,q⟩
 | ret u=>obtain⟨v,σ',H',I,r,q⟩:=h;exact⟨v,σ',H',I.unwish,r,q⟩
theorem PSs.nox{st:List Stmt}{t:TS}(h:PSs X.nox st t):PSs X st t:=fun pins s σ H D I hw=>
 wpAny_mono (h pins s σ H D (I.wish _) hw) (fun _ _ q=>q.unwish) fun _ _ z=>False.elim z
end
section
variable {X:Cx}{st:Stmt}{rest:List Stmt}{t u:TS}{e:Expr}{te:TE}{pos:Pos}
def tNext:TS:=fun D σ H=>D.nx σ H
def tSeq(t u:TS):TS:=fun D σ H=>t {D with nx:=u D} σ H
theorem zJ:PSs X [] tNext:=fun _ _ σ H _ I h=>wpAny_execs_nil ⟨σ,H,I,h⟩
theorem ze(h1:PS X st t)(h2:PSs X rest u):PSs X (st::rest) (tSeq t u):=by
 intro pins s σ H D I h
 refine wpAny_execs_cons (thn (h1 pins s σ H {D with nx:=u D} I h) fun f s1 q=>?_)
 cases f with
 | next=>
  obtain⟨σ',H',I',q⟩:=q
  exact h2 pins s1 σ' H' D I' q
 | ret v=>exact q
 | brk=>exact q
 | cont=>exact q
theorem zh(h1:PS X st t):PSs X [st] t:=by
 intro pins s σ H D I h
 refine wpAny_execs_cons (thn (h1 pins s σ H D I h) fun f s1 q=>?_)
 cases f with
 | next=>exact wpAny_execs_nil q
 | ret v=>exact q
 | brk=>exact q
 | cont=>exact q
def tBreak:TS:=fun D σ H=>D.bk σ H
theorem zzf:PS X (.Break pos) tBreak:=fun _ _ σ H _ I h=>wpAny_Break ⟨σ,H,I,h⟩
theorem Inv.quiet{pins:List (Addr×Obj)}{σ:St}{H:Hp}{s:Shared}(I:Inv X pins σ H s):interactive X.env=false:=by simp[interactive,I.ok.kind]
def tDrop(te:TE):TS:=fun D σ H=>te σ H fun _ H1=>D.nx σ H1
theorem zay(he:PE X e te)(hs:swapsWith e none pos.line X.env=pure false:=by rfl):PS X (.Expr e pos) (tDrop te):=by
 intro pins s σ H D I h
 exact wpAny_Expr_any (thn (he pins s σ H _ I h) fun v s1 ⟨x,H1,I1,r1,q1⟩=>⟨σ,H1,I1,q1⟩) I.quiet hs
def tRet(te:TE):TS:=fun D σ H=>te σ H D.rt
theorem zo(he:PE X e te):PS X (.Return (some e) pos) (tRet te):=by
 intro pins s σ H D I h
 exact wpAny_Return_some (thn (he pins s σ H _ I h) fun v s1 ⟨x,H1,I1,r1,q1⟩=>⟨x,σ,H1,I1,r1,q1⟩)
def tRetN:TS:=fun D _ H=>D.rt .non H
theorem zwv:PS X (.Return none pos) tRetN:=fun _ _ σ H _ I h=>wpAny_Return_none ⟨.non,σ,H,I,rfl,h⟩
def tIfS(c:TT)(t u:TS):TS:=fun D σ H=>c σ H fun b H1=>if b=true then t D σ H1 else u D σ H1
theorem zY{c:Expr}{a b:List Stmt}{tc:TT}(hc:PT X c tc)(ha:PSs X a t)(hb:PSs X b u):PS X (.If c a b pos) (tIfS tc t u):=by
 intro pins s σ H D I h
 refine wpAny_If (thn (hc pins s σ H _ I h) fun d s1 ⟨H1,I1,q1⟩=>?_)
 cases d with
 | true=>exact ha pins s1 σ H1 D I1 q1
 | false=>exact hb pins s1 σ H1 D I1 q1
end
abbrev TG:=V->St->Hp->(St->Hp->Prop)->Prop
abbrev TGs:=List V->St->Hp->(St->Hp->Prop)->Prop
def PG(X:Cx)(target:Expr)(t:TG):Prop:=
 ∀(pins:List (Addr×Obj)) (s:Shared) (σ:St) (H:Hp) (v:V) (u:Value) (Q:St->Hp->Prop),Inv X pins σ H s->zZ v u->t v σ H Q->
  wpAny (model X.prog X.w) X.A (assign target X.env u) (fun _ s'=>∃σ' H',Inv X pins σ' H' s'/\Q σ' H') X.xe s
def PGs(X:Cx)(ts:List Expr)(t:TGs):Prop:=
 ∀(pins:List (Addr×Obj)) (s:Shared) (σ:St) (H:Hp) (vs:List V) (us:List Value) (Q:St->Hp->Prop),Inv X pins σ H s->zQ vs us->t vs σ H Q->
  wpAny (model X.prog X.w) X.A (assignInOrder ((assignEach ts X.env).map (·.2)) us) (fun _ s'=>∃σ' H',Inv X pins σ' H' s'/\Q σ' H') X.xe s
abbrev TSet:=V->V->V->Hp->(Hp->Prop)->Prop
def PSet(X:Cx)(t:TSet):Prop:=
 ∀(pins:List (Addr×Obj)) (s:Shared) (σ:St) (H:Hp) (o i v:V) (ov iv u:Value) (Q:Hp->Prop),Inv X pins σ H s->zZ o ov->zZ i iv->zZ v u->t o i v H Q->
  wpAny (model X.prog X.w) X.A (setItem ov iv u) (fun _ s'=>∃H',Inv X pins σ H' s'/\Q H') X.xe s
abbrev TIp:=V->V->Hp->VK->Prop
def PIp(X:Cx)(op:Operator)(t:TIp):Prop:=
 ∀(pins:List (Addr×Obj)) (s:Shared) (σ:St) (H:Hp) (x y:V) (v u:Value) (Q:VK),Inv X pins σ H s->zZ x v->zZ y u->t x y H Q->
  wpAny (model X.prog X.w) X.A (inplaceOp op v u) (EP X pins σ Q) X.xe s
section
variable {X:Cx}{pos:Pos}
def zgp(i:Nat):TG:=fun v σ H Q=>Q (σ.set i (some v)) H
theorem zag{i:Nat}{x:Str}(hN:X.N.Nodup)(hi:X.N[i]? = some x)(hx:Loc X.env.scope x)(hf:X.fn x=true\/X.env.scope.names.lookup x=some .local:=by first|exact .inl rfl|exact .inr rfl|assumption):PG X (.Name x pos) (zgp i):=by
 intro pins s σ H v u Q I r h
 exact wpAny_assign_Name (zpm I hN hi hx r (fun s' I'=>⟨_,H,I',h⟩) hf)
inductive gNil(vs:List V)(σ:St)(H:Hp)(Q:St->Hp->Prop):Prop|I:vs=[]->Q σ H->gNil vs σ H Q
inductive gCons(t:TG)(u:TGs)(vs:List V)(σ:St)(H:Hp)(Q:St->Hp->Prop):Prop|I:∀v r,vs=v::r->(t v σ H fun σ' H'=>u r σ' H' Q)->gCons t u vs σ H Q
theorem zga:PGs X [] gNil:=by
 intro pins s σ H vs us Q I r h
 obtain⟨e,h⟩:=h
 subst e
 cases r
 exact assignInOrder_nil ⟨σ,H,I,h⟩
theorem zbP{e:Expr}{es:List Expr}{t:TG}{u:TGs}(h1:PG X e t)(h2:PGs X es u)
  (hs:(assignEach (e::es) X.env).map (·.2)=assign e X.env::(assignEach es X.env).map (·.2):=by rfl):PGs X (e::es) (gCons t u):=by
 intro pins s σ H vs us Q I r h
 obtain⟨v,vr,e1,h⟩:=h
 subst e1
 cases r with
 | cons r rr=>
  rw[hs]
  refine assignInOrder_cons (thn (h1 pins s σ H _ _ _ I r h) fun _ s1 ⟨σ1,H1,I1,q1⟩=>?_)
  exact h2 pins s1 σ1 H1 _ _ Q I1 rr q1
inductive gTup(K:Fg)(n:Nat)(t:TGs)(v:V)(σ:St)(H:Hp)(Q:St->Hp->Prop):Prop|I:∀a xs,v=.ref a->SqT K H a xs->xs.length=n->t xs σ H Q->gTup K n t v σ H Q
theorem zhI{es:List Expr}{k:Nat}{t:TGs}{n:Nat}(hc:X.calm=true)(h:PGs X es t)
  (hn:(assignEach es X.env).length=n:=by rfl) (hst:(assignEach es X.env).findIdx? (·.1)=none:=by rfl):PG X (.Tuple es k pos) (gTup X.K n t):=by
 intro pins s σ H v u Q I r hw
 obtain⟨a,xs,e1,hq,hl,hw⟩:=hw
 subst e1
 cases r
 obtain⟨its,rv,ht,hz⟩:=I.tuple hq
 refine assign_Tuple_tuple (I.ok.hd hc) ht (by simp[hn,<-hl,rv.length]) hst fun h' hx=>?_
 have I1:Inv X pins σ H {s with heap:=h'}:=I.kept (t':=s.toks) fun b o e=>hx b o (Nat.ne_of_lt (Heap.lt_size e)) e
 exact h pins _ σ H xs _ Q I1 (by simpa using rv) hw
def gSub(to ti:TE)(t:TSet):TG:=fun v σ H Q=>to σ H fun o H1=>ti σ H1 fun i H2=>t o i v H2 fun H3=>Q σ H3
theorem zkW{o i:Expr}{to ti:TE}{t:TSet}(ho:PE X o to)(hi:PE X i ti)(hs:PSet X t)
  (ha :∀v,assign (.Subscript o i pos) X.env v=(do
   let ov<-holding [v] (eval o X.env)
   let iv<-holding [v,ov] (eval i X.env)
   standAt pos
   holding [v,ov,iv] (setItem ov iv v)
   release [v,ov,iv] []):=by intro _;rfl):PG X (.Subscript o i pos) (gSub to ti t):=by
 intro pins s σ H v u Q I r h
 rw[ha]
 refine wpAny_bind (wpAny_holding (thn (ho pins s σ H _ I h) fun ov s1 ⟨x,H1,I1,r1,q1⟩=>?_))
 refine wpAny_bind (wpAny_holding (thn (hi pins s1 σ H1 _ I1 q1) fun iv s2 ⟨y,H2,I2,r2,q2⟩=>?_))
 refine wpAny_bind (wpAny_standAt (wpAny_bind (wpAny_holding (thn (hs pins s2 σ H2 x y v ov iv u _ I2 r1 r2 r q2) fun _ s3 ⟨H3,I3,q3⟩=>?_))))
 exact wpAny_release ⟨σ,H3,I3,q3⟩
def tAsg(te:TE)(g:TG):TS:=fun D σ H=>te σ H fun x H1=>g x σ H1 D.nx
theorem zkX{tg e:Expr}{te:TE}{g:TG}(he:PE X e te)(hg:PG X tg g)(hs:swapsWithSole [tg] e pos.line X.env=pure false:=by rfl)(hw:swappedStores [tg] e X.env=pure none:=by rfl)
  (h1:(assignEach [tg] X.env).map (·.2)=[assign tg X.env]:=by rfl):PS X (.Assign [tg] e pos) (tAsg te g):=by
 intro pins s σ H D I h
 refine wpAny_Assign_stores (thn (he pins s σ H _ I h) fun v s1 ⟨x,H1,I1,r1,q1⟩=>?_) hs hw
 rw[h1]
 exact thn (hg pins s1 σ H1 x v _ I1 r1 q1) fun _ s2 q=>q
theorem zC{i:Nat}{x:Str}{e:Expr}{te:TE}{pos':Pos}(hN:X.N.Nodup)(hi:X.N[i]? = some x)(hx:Loc X.env.scope x)(he:PE X e te)(hs:swapsWith e (some (.Name x pos')) pos.line X.env=pure false:=by rfl)(hf:X.fn x=true\/X.env.scope.names.lookup x=some .local:=by first|exact .inl rfl|exact .inr rfl|assumption) :
  PS X (.Assign [.Name x pos'] e pos) (tAsg te (zgp i)):=by
 intro pins s σ H D I h
 refine wpAny_Assign_Name (thn (he pins s σ H _ I h) fun v s1 ⟨y,H1,I1,r1,q1⟩=>?_) hs
 exact zpm I1 hN hi hx r1 (fun s2 I2=>⟨_,H1,I2,q1⟩) hf
inductive tAug(i:Nat)(te:TE)(ti:TIp)(D:Ends)(σ:St)(H:Hp):Prop|I:∀x,σ[i]? = some (some x)->(te σ H fun y H1=>ti x y H1 fun z H2=>D.nx (σ.set i (some z)) H2)->tAug i te ti D σ H
theorem qD(i:Nat){x:Str}{e:Expr}{te:TE}{pos':Pos}(hN:X.N.Nodup)(he:PE X e te)(hi:X.N[i]? = some x:=by rfl)(hx:Loc X.env.scope x:=by exact Or.inl rfl)(hs:swapsWith e (some (.Name x pos')) pos.line X.env=pure false:=by rfl)(hf:X.fn x=true\/X.env.scope.names.lookup x=some .local:=by first|exact .inl rfl|exact .inr rfl|assumption) :
  PS X (.Assign [.Name x pos'] e pos) (tAsg te (zgp i)):=zC hN hi hx he hs hf
theorem ztG{i:Nat}{x:Str}{e:Expr}{te:TE}{op:Operator}{ti:TIp}{pos':Pos}(hN:X.N.Nodup)(hi:X.N[i]? = some x)(hx:Loc X.env.scope x)(he:PE X e te)(ho:PIp X op ti)(hf:X.fn x=true\/X.env.scope.names.lookup x=some .local:=by first|exact .inl rfl|exact .inr rfl|assumption) :
  PS X (.AugAssign (.Name x pos') op e pos) (tAug i te ti):=by
 intro pins s σ H D I h
 obtain⟨v,e1,h⟩:=h
 obtain⟨m,hn,hl⟩:=I.loc
 have vis:Vis X.env.scope x:=by rcases hx with k|k;exact .inl k;exact .inr (.inl k)
 obtain⟨u,r,l⟩:=hl i x v hi e1 vis
 refine wpAny_AugAssign_Name ?_
 have go:wpAny (model X.prog X.w) X.A (eval e X.env) (fun w s₂=>wpAny (model X.prog X.w) X.A (inplaceOp op u w) (fun r s₃=>wpAny (model X.prog X.w) X.A (storeName X.env x r) (fun _=>SP X pins D .next) X.xe s₃) X.xe s₂) X.xe s:=by
  refine thn (he pins s σ H _ I h) fun w s1 ⟨y,H1,I1,r1,q1⟩=>?_
  refine thn (ho pins s1 σ H1 v y u w _ I1 r r1 q1) fun z s2 ⟨zv,H2,I2,r2,q2⟩=>?_
  exact zpm I2 hN hi hx r2 (fun s3 I3=>⟨_,H2,I3,q2⟩) hf
 rcases l with⟨hk,hm⟩|⟨hk,c,hc,hcell⟩
 ·exact wpAny_loadName_local I.ok.kind hk hn hm go
 ·rcases hk with hk|hk
  ·exact wpAny_loadName_cell I.ok.kind hk hc hcell go
  ·rcases hx with k|k
   ·have:X.env.scope.names.lookup x=some .free:=hk
    rw[k]at this;cases this
   ·have:X.env.scope.names.lookup x=some .free:=hk
    rw[k]at this;cases this
def tAugS(to ti te:TE)(tget:V->V->Hp->VK->Prop)(tip:TIp)(tset:TSet):TS:=fun D σ H=>to σ H fun o H1=>ti σ H1 fun i H2=>tget o i H2 fun x H3=>te σ H3 fun y H4=>tip x y H4 fun z H5=>tset o i z H5 fun H6=>D.nx σ H6
def PGet(X:Cx)(t:V->V->Hp->VK->Prop):Prop:=
 ∀(pins:List (Addr×Obj)) (s:Shared) (σ:St) (H:Hp) (o i:V) (ov iv:Value) (Q:VK),Inv X pins σ H s->zZ o ov->zZ i iv->t o i H Q->
  wpAny (model X.prog X.w) X.A (getItem ov iv) (EP X pins σ Q) X.xe s
theorem zww{o i e:Expr}{to ti te:TE}{tget:V->V->Hp->VK->Prop}{tip:TIp}{tset:TSet}{op:Operator}{tpos:Pos}(ho:PE X o to)(hi:PE X i ti)(hg:PGet X tget)(he:PE X e te)(hp:PIp X op tip)(hs:PSet X tset)
  (ha :∀ov iv new,augStore i ov iv new=(do holding [new,ov,iv] (setItem ov iv new);release [new,ov,iv] [];pure .next):=by intros;rfl):PS X (.AugAssign (.Subscript o i tpos) op e pos) (tAugS to ti te tget tip tset):=by
 intro pins s σ H D I h
 refine wpAny_AugAssign_SubscriptAny (thn (ho pins s σ H _ I h) fun ov s1 ⟨x1,H1,I1,r1,q1⟩=>?_) ha
 refine thn (hi pins s1 σ H1 _ I1 q1) fun iv s2 ⟨x2,H2,I2,r2,q2⟩=>?_
 refine thn (hg pins s2 σ H2 x1 x2 ov iv _ I2 r1 r2 q2) fun old s3 ⟨x3,H3,I3,r3,q3⟩=>?_
 refine thn (he pins s3 σ H3 _ I3 q3) fun v s4 ⟨x4,H4,I4,r4,q4⟩=>?_
 refine thn (hp pins s4 σ H4 x3 x4 old v _ I4 r3 r4 q4) fun new s5 ⟨x5,H5,I5,r5,q5⟩=>?_
 exact thn (hs pins s5 σ H5 x1 x2 x5 ov iv new _ I5 r1 r2 r5 q5) fun _ s6 ⟨H6,I6,q6⟩=>⟨σ,H6,I6,q6⟩
inductive ipI(f:Int->Int->Int)(x y:V)(H:Hp)(Q:VK):Prop|I:∀i j,x=.int i->y=.int j->Q (.int (f i j)) H->ipI f x y H Q
theorem zx8:PIp X .Add (ipI fun i j=>i+j):=by
 intro pins s σ H x y v u Q I r1 r2 h
 obtain⟨i,j,e1,e2,q⟩:=h
 subst e1;subst e2
 obtain⟨t,rfl⟩:=r1
 obtain⟨t',rfl⟩:=r2
 exact iadd_int ⟨.int _,H,I.tok _,⟨_,rfl⟩,q⟩
theorem zBu:PIp X .Sub (ipI fun i j=>i-j):=by
 intro pins s σ H x y v u Q I r1 r2 h
 obtain⟨i,j,e1,e2,q⟩:=h
 subst e1;subst e2
 obtain⟨t,rfl⟩:=r1
 obtain⟨t',rfl⟩:=r2
 exact isub_int ⟨.int _,H,I.tok _,⟨_,rfl⟩,q⟩
end
section
variable {X:Cx}{pos:Pos}
def tWhile(c:TT)(tb:TS):TS:=fun D σ H=>∃W:Nat->St->Hp->Prop,(∃m,W m σ H)/\∀m σ H,W m σ H->
 c σ H fun b H1=>if b=true then∃N:St->Hp->Prop,(∀σ' H',N σ' H'->∃m',m'<m/\W m' σ' H')/\tb {D with nx:=N,ct:=N,bk:=D.nx} σ H1 else D.nx σ H1
theorem zlG{c:Expr}{body:List Stmt}{tc:TT}{tb:TS}(hp:PassesOwn (model X.prog X.w) X.A X.env X.xe)(hc:PT X c tc)(hb:PSs X body tb):PS X (.While c body [] pos) (tWhile tc tb):=by
 intro pins s σ H D I h
 obtain⟨W,⟨m0,w0⟩,turn⟩:=h
 refine wpAny_While (codeAny_whileLoop (fun n s'=>∃σ' H',Inv X pins σ' H' s'/\W n σ' H') ?_ m0 ⟨σ,H,I,w0⟩)
 rintro n s1 ⟨σ1,H1,I1,w1⟩
 refine wpAny_passesOwn hp (thn (hc pins s1 σ1 H1 _ I1 (turn n σ1 H1 w1)) fun b s2 ⟨H2,I2,q2⟩=>?_)
 cases b with
 | true=>
  obtain⟨N,hN,q2⟩:=q2
  rw[if_pos rfl]
  refine wpAny_passesOwn hp (thn (hb pins s2 σ1 H2 _ I2 q2) fun f s3 q3=>?_)
  cases f with
  | next=>
   obtain⟨σ3,H3,I3,n3⟩:=q3
   obtain⟨m',hm,w3⟩:=hN σ3 H3 n3
   exact⟨m',hm,σ3,H3,I3,w3⟩
  | cont=>
   obtain⟨σ3,H3,I3,n3⟩:=q3
   obtain⟨m',hm,w3⟩:=hN σ3 H3 n3
   exact⟨m',hm,σ3,H3,I3,w3⟩
  | brk=>exact q3
  | ret v=>exact q3
 | false=>
  rw[if_neg bFt]
  exact wpAny_execs_nil ⟨σ1,H2,I2,q2⟩
end
structure It where
 go:Nat->Hp->Prop
 yld:Nat->Hp->V->Hp->Prop
 stop:Nat->Hp->Prop
def FpOk(X:Cx)(pins:List (Addr×Obj))(H:Hp)(b:Addr):Prop:=
 H b=none/\b≠X.env.locals/\b∉X.fs/\(b∈X.ex\/X.s_0.heap.objs.size<=b)/\(∀x c,X.env.cells.lookup x=some c->c≠b)/\∀p∈X.pn++pins,p.1≠b
theorem Inv.fpOk{X:Cx}{pins:List (Addr×Obj)}{σ:St}{H H':Hp}{s:Shared}{b:Addr}(I:Inv X pins σ H s)(hb:s.heap.objs.size<=b)(hn:H' b=none):FpOk X pins H' b:=by
 refine⟨hn,Nat.ne_of_gt (Nat.lt_of_lt_of_le I.lt hb),I.nofs hb,.inr (nLt I.sz hb),fun x c e z=>?_,fun p hp z=>?_⟩
 ·obtain⟨v,q⟩:=I.cell x c e
  exact absurd (Nat.lt_of_lt_of_le q.lt (by rw[z];exact hb)) (Nat.lt_irrefl _)
 ·exact absurd (Nat.lt_of_lt_of_le (Heap.lt_size (I.pin p hp).1) (by rw[z];exact hb)) (Nat.lt_irrefl _)
structure Turn(P:Program)(w:World)(K:Fg)(tg:Expr)(J:It)(fp:List Addr)(it:Addr)(tn:Nat->Heap->Prop):Prop where
 mem:it∈fp
 obj :∀i h,tn i h->∀b∈fp,∃o,h.get? b=some o/\∀v,o.data≠.cell v
 keep :∀i h h',tn i h->(∀b∈fp,∀o,h.get? b=some o->h'.get? b=some o)->tn i h'
 item :∀(X:Cx),X.prog=P->X.w=w->X.K=K->X.calm=true->∀(i:Nat) (pins:List (Addr×Obj)) (s:Shared) (σ:St) (H:Hp) (E:Value->Shared->Prop),Inv X pins σ H s->(∀b∈fp,FpOk X pins H b)->tn i s.heap->J.go i H->
  wpAny (model P w) X.A (pyNext (.ref it)) (fun r s1=>∃u,r=some u/\
   wpAny (model P w) X.A (letOwnedTupleGo tg (.ref it) u) (fun _ s2=>∃x H',Inv X pins σ H' s2/\zZ x u/\J.yld i H x H'/\tn (i+1) s2.heap/\∀b∈fp,H' b=none) E s1) E s
 done :∀(X:Cx),X.prog=P->X.w=w->X.K=K->X.calm=true->∀(i:Nat) (pins:List (Addr×Obj)) (s:Shared) (σ:St) (H:Hp) (E:Value->Shared->Prop),Inv X pins σ H s->(∀b∈fp,FpOk X pins H b)->tn i s.heap->J.stop i H->
  wpAny (model P w) X.A (pyNext (.ref it)) (fun r s1=>r=none/\Inv X pins σ H s1) E s
 self :∀(A:Around) (i:Nat) (s:Shared) (Q:Value->Shared->Prop) (E:Value->Shared->Prop),tn i s.heap->Q (.ref it) s->wpAny (model P w) A (pyIter (.ref it)) Q E s
abbrev TI:=St->Hp->(It->Hp->Prop)->Prop
def PIE(X:Cx)(pins:List (Addr×Obj))(σ:St)(tg:Expr)(R:It->Hp->Prop)(itv:Value)(s2:Shared):Prop:=
 ∃(it:Addr) (fp:List Addr) (tn:Nat->Heap->Prop) (J:It) (H':Hp),itv=.ref it/\Inv X pins σ H' s2/\Turn X.prog X.w X.K tg J fp it tn/\tn 0 s2.heap/\(∀b∈fp,FpOk X pins H' b)/\R J H'
def PI(X:Cx)(tg iter:Expr)(wi:TI):Prop:=
 ∀(pins:List (Addr×Obj)) (s:Shared) (σ:St) (H:Hp) (R:It->Hp->Prop),Inv X pins σ H s->wi σ H R->
  wpAny (model X.prog X.w) X.A (eval iter X.env) (fun v s1=>wpAny (model X.prog X.w) X.A (pyIter v) (PIE X pins σ tg R) X.xe s1) X.xe s
theorem zw5{M:Model}{A:Around}{E:Value->Shared->Prop}{s:Shared}{tg:Expr}{it:Addr}{u:Value}{o:Obj}{n:String}{vs:Array Value}{Q:Unit->Shared->Prop}(ho:s.heap.get? it=some o)(hc:o.cls=.type n)(hd:o.data=.fields vs)
  (hn:["enumerate","zip","dict_itemiterator","dict_reverseitemiterator","odict_iterator","itertools.zip_longest","itertools.pairwise"].contains n=false) (hQ:Q () s):wpAny M A (letOwnedTupleGo tg (.ref it) u) Q E s:=by
 unfold letOwnedTupleGo
 cases tg<;>first
  | exact wpAny_pure hQ
  | (cases u<;>first
    | exact wpAny_pure hQ
    | (refine wpAny_bind (wpAny_load ho ?_)
       rw[hc,hd]
       show wpAny M A (if(["enumerate","zip","dict_itemiterator","dict_reverseitemiterator","odict_iterator","itertools.zip_longest","itertools.pairwise"].contains n&&vs[0]? == some (rawInt _))=true then _ else _) Q E s
       rw[if_neg (by intro h;rw[hn,Bool.false_and]at h;cases h)]
       exact wpAny_pure hQ))
def Itl(K:Fg)(a:Addr):It:=
 ⟨fun i H=>∃xs x,SqL K H a xs/\xs[i]? = some x,fun i H x H'=>H'=H/\∀xs,SqL K H a xs->xs[i]? = some x,fun i H=>∃xs,SqL K H a xs/\xs.length<=i⟩
def Itr(lo:Int)(n:Nat):It:=⟨fun i _=>i<n,fun i H x H'=>H'=H/\x=.int (lo+i),fun i _=>n<=i⟩
theorem zx9{P:Program}{w:World}{K:Fg}{tg:Expr}(a it:Addr):Turn P w K tg (Itl K a) [it] it (fun i h=>h.IsListIter it a i) where
 mem:=by simp
 obj:=fun i h st b hb=>by
  have e:b=it:=by simpa using hb
  subst e
  obtain⟨o,e,c,d⟩:=st
  exact⟨o,e,fun v z=>by rw[d]at z;cases z⟩
 keep:=fun i h h' st k=>st.at fun o e=>k it (by simp) o e
 item:=by
  intro X hP hw hK hc i pins s σ H E I hf st hg
  subst hP hw hK
  obtain⟨xs,x,hq,hx⟩:=hg
  obtain⟨its,rv,p,hz⟩:=I.list hq
  obtain⟨u,hu,ru⟩:=rv.get hx
  obtain⟨f0,f1,f2,f3,f4,f5⟩:=hf it (by simp)
  refine wpAny_pyNext_list_item st p.isList (x:=u) (by simpa using hu) fun h' st' sb=>?_
  have I1:Inv X pins σ H {s with heap:=h'}:=I.turned (t':=s.toks) (fun b o hb e=>(sb.2 b hb).trans e) f0 f1 f3 f4 f5
  obtain⟨o,e,c,d⟩:=id st'
  exact⟨u,rfl,zw5 (s:={s with heap:=h'}) e c d (by decide) ⟨x,H,I1,ru,⟨rfl,fun ys hy=>by rw[I.list_inj hy hq];exact hx⟩,st',fun b hb=>(hf b hb).1⟩⟩
 done:=by
  intro X hP hw hK hc i pins s σ H E I hf st hg
  subst hP hw hK
  obtain⟨xs,hq,hx⟩:=hg
  obtain⟨its,rv,p,hz⟩:=I.list hq
  obtain⟨f0,f1,f2,f3,f4,f5⟩:=hf it (by simp)
  have hl:=rv.length
  exact wpAny_pyNext_list_end (I.ok.hd hc) st p.isList (by simp;omega) fun h' eb=>⟨rfl,I.turned (t':=s.toks) (fun b o hb e=>eb b o hb e) f0 f1 f3 f4 f5⟩
 self:=fun _ _ _ _ _ st h=>wpAny_pyIter_listiter st h
theorem zw6{P:Program}{w:World}{K:Fg}{tg:Expr}(it:Addr)(lo:Int)(n:Nat):Turn P w K tg (Itr lo n) [it] it (fun i h=>IsRangeIter h it (lo+(i:Nat)*1) ((n:Int)-(i:Nat)) 1) where
 mem:=by simp
 obj:=fun i h st b hb=>by
  have e:b=it:=by simpa using hb
  subst e
  exact⟨_,st,fun v z=>by
   have z':Data.fields _=Data.cell v:=z
   cases z'⟩
 keep:=fun i h h' st k=>k it (by simp) _ st
 item:=by
  intro X hP hw hK hc i pins s σ H E I hf st hg
  subst hP hw hK
  obtain⟨f0,f1,f2,f3,f4,f5⟩:=hf it (by simp)
  have W:=Walks.range (prog:=X.prog) (w:=X.w) (I.ok.hd hc) it lo 1 n
  refine W.item i s _ _ hg st fun v h' tk hv st' kk=>?_
  obtain⟨t,rfl⟩:=hv
  have I1:Inv X pins σ H {s with heap:=h',toks:=tk}:=I.turned (fun b o hb e=>kk b o (by simpa using hb) e) f0 f1 f3 f4 f5
  refine⟨_,rfl,zw5 (s:={s with heap:=h',toks:=tk}) (n:="range_iterator") st' rfl rfl (by decide) ⟨.int (lo+i),H,I1,⟨t,?_⟩,⟨rfl,rfl⟩,st',fun b hb=>(hf b hb).1⟩⟩
  rw[Int.mul_one]
 done:=by
  intro X hP hw hK hc i pins s σ H E I hf st hg
  subst hP hw hK
  obtain⟨f0,f1,f2,f3,f4,f5⟩:=hf it (by simp)
  exact wpAny_pyNext_range_end (I.ok.hd hc) st (by have:n<=i:=hg;omega) fun h' eb=>⟨rfl,I.turned (t':=s.toks) (fun b o hb e=>eb b o hb e) f0 f1 f3 f4 f5⟩
 self:=fun _ _ _ _ _ st h=>wpAny_pyIter_rangeiter st h
section
variable {X:Cx}{tg:Expr}
def iList(K:Fg)(tl:TE):TI:=fun σ H R=>tl σ H fun x H1=>∃a,x=.ref a/\(∃xs,SqL K H1 a xs)/\R (Itl K a) H1
theorem zdP{l:Expr}{tl:TE}(hl:PE X l tl):PI X tg l (iList X.K tl):=by
 intro pins s σ H R I h
 refine thn (hl pins s σ H _ I h) fun v s1 ⟨x,H1,I1,r1,q1⟩=>?_
 obtain⟨a,e,⟨xs,hq⟩,q⟩:=q1
 subst e
 cases r1
 obtain⟨its,rv,p,hz⟩:=I1.list hq
 refine wpAny_pyIter_list p.isList ?_
 refine⟨s1.heap.objs.size,[s1.heap.objs.size],_,_,H1,rfl,I1.kept (t':=s1.toks) fun b o e=>Heap.get?_push_of_some _ e,zx9 a _,⟨_,Heap.get?_push_size _ rfl,rfl,rfl⟩,fun b hb=>?_,q⟩
 have e:b=s1.heap.objs.size:=by simpa using hb
 subst e
 exact I1.fpOk (nLr _) (I1.hok.fresh (nLr _))
theorem zzg{pins:List (Addr×Obj)}{σ:St}{H:Hp}{s:Shared}{R:It->Hp->Prop}{E:Value->Shared->Prop}{lo hi:Int}{t u v:Tok}{tk:Nat}(I:Inv X pins σ H s)(h1:-(2 ^ 62)<=lo)(h2:lo<2 ^ 62)(h3:-(2 ^ 62)<=hi)(h4:hi<2 ^ 62)
  (q:R (Itr lo (hi-lo).toNat) H):wpAny (model X.prog X.w) X.A (pyIter (.ref s.heap.objs.size)) (PIE X pins σ tg R) E {s with heap:=s.heap.push {cls:=.type "range",data:=.fields #[.int lo t,.int hi u,.int 1 v]},toks:=tk}:=by
 refine wpAny_pyIter_range (IsRange.new ..) (small_one h1 h2 h3 h4) ?_
 have I1:Inv X pins σ H {s with heap:=s.heap.push {cls:=.type "range",data:=.fields #[.int lo t,.int hi u,.int 1 v]},toks:=tk}:=I.kept fun b o e=>Heap.get?_push_of_some _ e
 refine⟨(s.heap.push {cls:=.type "range",data:=.fields #[.int lo t,.int hi u,.int 1 v]}).objs.size,[(s.heap.push {cls:=.type "range",data:=.fields #[.int lo t,.int hi u,.int 1 v]}).objs.size],_,_,H,rfl,
  I1.kept (t':=tk) fun b o e=>Heap.get?_push_of_some _ e,zw6 _ lo (hi-lo).toNat,?_,fun b hb=>?_,q⟩
 ·have e1:lo+((0:Nat):Int)*1=lo:=by simp
  have e2:(((hi-lo).toNat:Nat):Int)-((0:Nat):Int)=Builtin.Range.rangeSize lo hi 1:=by rw[rangeSize_one];split<;>omega
  show IsRangeIter _ _ (lo+((0:Nat):Int)*1) ((((hi-lo).toNat:Nat):Int)-((0:Nat):Int)) 1
  rw[e1,e2]
  exact Heap.get?_push_size _ rfl
 ·have e:b=(s.heap.push {cls:=.type "range",data:=.fields #[.int lo t,.int hi u,.int 1 v]}).objs.size:=by simpa using hb
  subst e
  exact I1.fpOk (nLr _) (I1.hok.fresh (nLr _))
def iRng1(ta:TA):TI:=fun σ H R=>ta σ H fun vs H1=>∃j:Int,vs=[.int j]/\-(2 ^ 62)<=j/\j<2 ^ 62/\R (Itr 0 j.toNat) H1
theorem zc3{a:Expr}{ta:TA}{p pos:Pos}(hg:Gl X "range") (hm:X.mg "range" = none) (ha:PA X [a] ta) (hs:starEach [a] X.env=[(false,eval a X.env)]:=by rfl):PI X tg (.Call (.Name "range" p) [a] [] pos) (iRng1 ta):=by
 intro pins s σ H R I h
 refine Call_ (zi2 I hg hm boot_range (PyProof.Rows.callWith_type1 (thn (ha pos pins s σ H _ I h) fun us s1 ⟨vs,H1,I1,r1,q1⟩=>?_) hs rfl))
 obtain⟨j,e,q1,q2,q⟩:=q1
 subst e
 cases r1 with
 | cons r rr=>
  cases rr
  obtain⟨t,rfl⟩:=r
  exact call_range_1 (zzg I1 (by omega) (by omega) q1 q2 (by simpa using q))
def tFor(wi:TI)(g:TG)(tb:TS):TS:=fun D σ H=>wi σ H fun J H1=>∃W:Nat->Nat->St->Hp->Prop,(∃m,W 0 m σ H1)/\∀i m σ H,W i m σ H->
 (J.stop i H/\D.nx σ H)\/(J.go i H/\∃N:St->Hp->Prop,(∀σ' H',N σ' H'->∃m',m'<m/\W (i+1) m' σ' H')/\∀x H',J.yld i H x H'->g x σ H' fun σ2 H2=>tb {D with nx:=N,ct:=N,bk:=D.nx} σ2 H2)
def pinsAt(fp:List Addr)(h:Heap):List (Addr×Obj):=fp.filterMap fun b=>(h.get? b).map fun o=>(b,o)
theorem zlH{fp:List Addr}{h:Heap}{b:Addr}{o:Obj}(hb:b∈fp)(e:h.get? b=some o):(b,o)∈pinsAt fp h:=List.mem_filterMap.mpr ⟨b,hb,by rw[e];rfl⟩
theorem zya{fp:List Addr}{h:Heap}{p:Addr×Obj}(hp:p∈pinsAt fp h):p.1∈fp/\h.get? p.1=some p.2:=by
 obtain⟨b,hb,e⟩:=List.mem_filterMap.mp hp
 cases q:h.get? b with
 | none=>rw[q]at e;cases e
 | some o=>
  rw[q]at e
  have e':(b,o)=p:=oSi e
  subst e'
  exact⟨hb,q⟩
theorem Inv.pinned{pins:List (Addr×Obj)}{σ:St}{H:Hp}{s:Shared}{fp:List Addr}(I:Inv X pins σ H s)(hf :∀b∈fp,FpOk X pins H b)(ho :∀b∈fp,∃o,s.heap.get? b=some o/\∀v,o.data≠.cell v):Inv X (pins++pinsAt fp s.heap) σ H s:=
 I.pins_of fun p hp=>(List.mem_append.mp hp).elim (fun z=>I.pin p (List.mem_append_right _ z)) fun z=>by
  obtain⟨hb,e⟩:=zya z
  obtain⟨f0,f1,f2,_⟩:=hf p.1 hb
  obtain⟨o,e',d⟩:=ho p.1 hb
  rw[e]at e';cases e'
  exact⟨e,f0,f1,f2,d⟩
theorem Inv.unpinned{pins pl:List (Addr×Obj)}{σ:St}{H:Hp}{s:Shared}(I:Inv X (pins++pl) σ H s):Inv X pins σ H s:=I.pins_of fun p hp=>I.pin p (List.mem_append_right _ (List.mem_append_left _ hp))
theorem zde{iter:Expr}{body:List Stmt}{wi:TI}{g:TG}{tb:TS}{pos:Pos}(hp:PassesOwn (model X.prog X.w) X.A X.env X.xe)(hc:X.calm=true)(hi:PI X tg iter wi)(hg:PG X tg g)(hb:PSs X body tb)
  (hs :∀x,foldedSetIterable iter X.env x=pure x:=by intro _;rfl):PS X (.For tg iter body [] pos) (tFor wi g tb):=by
 intro pins s σ H D I h
 refine wpAny_For (thn (hi pins s σ H _ I h) fun v s1 h1=>thn h1 fun itv s2 h2=>?_) hs
 obtain⟨it,fp,tn,J,H2,e,I2,T,st2,f2,W,⟨m0,w0⟩,turn⟩:=h2
 subst e
 have stat :∀{H':Hp},(∀b∈fp,H' b=none)->∀b∈fp,FpOk X pins H' b:=fun hn b hb=>⟨hn b hb,(f2 b hb).2⟩
 refine codeAny_forLoop_any (fun n s'=>∃i σ' H',Inv X pins σ' H' s'/\tn i s'.heap/\(∀b∈fp,H' b=none)/\W i n σ' H') ?_ m0 ⟨0,σ,H2,I2,st2,fun b hb=>(f2 b hb).1,w0⟩
 rintro n s3 ⟨i,σ3,H3,I3,st3,fr3,w3⟩
 rcases turn i n σ3 H3 w3 with⟨stop,qn⟩|⟨go,N,hN,step⟩
 ·refine wpAny_passesOwn hp (thn (T.done X rfl rfl rfl hc i pins s3 σ3 H3 X.xe I3 (stat fr3) st3 stop) fun r s4 ⟨hr,I4⟩=>?_)
  subst hr
  exact wpAny_execs_nil ⟨σ3,H3,I4,qn⟩
 ·refine wpAny_passesOwn hp (thn (T.item X rfl rfl rfl hc i pins s3 σ3 H3 X.xe I3 (stat fr3) st3 go) fun r s4 ⟨u,hr,h4⟩=>?_)
  subst hr
  refine wpAny_passesOwn hp (thn h4 fun _ s5 ⟨x,H5,I5,r5,y5,st5,fr5⟩=>?_)
  have I5':=I5.pinned (stat fr5) (T.obj _ _ st5)
  refine wpAny_passesOwn hp (thn (hg _ s5 σ3 H5 x u _ I5' r5 (step x H5 y5)) fun _ s6 ⟨σ6,H6,I6,q6⟩=>?_)
  refine wpAny_passesOwn hp (thn (hb _ s6 σ6 H6 _ I6 q6) fun f s7 q7=>?_)
  have again :∀{σ7:St} {H7:Hp},Inv X (pins++pinsAt fp s5.heap) σ7 H7 s7->N σ7 H7->∃m,m<n/\∃i σ' H',Inv X pins σ' H' s7/\tn i s7.heap/\(∀b∈fp,H' b=none)/\W i m σ' H':=fun {σ7 H7} I7 n7=>by
   obtain⟨m',hm,w7⟩:=hN σ7 H7 n7
   refine⟨m',hm,i+1,σ7,H7,I7.unpinned,T.keep _ _ _ st5 fun b hb o e=>(I7.pin (b,o) (List.mem_append_right _ (List.mem_append_right _ (zlH hb e)))).1,fun b hb=>?_,w7⟩
   obtain⟨o,e,d⟩:=T.obj _ _ st5 b hb
   exact(I7.pin (b,o) (List.mem_append_right _ (List.mem_append_right _ (zlH hb e)))).2.1
  cases f with
  | next=>obtain⟨σ7,H7,I7,n7⟩:=q7;exact again I7 n7
  | cont=>obtain⟨σ7,H7,I7,n7⟩:=q7;exact again I7 n7
  | brk=>obtain⟨σ7,H7,I7,q7⟩:=q7;exact⟨σ7,H7,I7.unpinned,q7⟩
  | ret v=>obtain⟨x7,σ7,H7,I7,r7,q7⟩:=q7;exact⟨x7,σ7,H7,I7.unpinned,r7,q7⟩
end
theorem zpn{K:Fg}{a:Addr}{xs:List V}{g:TG}{tb:TS}{D:Ends}{σ:St}{H:Hp}(Pv:Nat->St->Hp->Prop)(h0:Pv 0 σ H)(hl :∀i σ H,i<=xs.length->Pv i σ H->SqL K H a xs)
  (hs :∀i x σ H,xs[i]? = some x->Pv i σ H->g x σ H fun σ2 H2=>tb {D with nx:=Pv (i+1),ct:=Pv (i+1),bk:=D.nx} σ2 H2) (hd :∀σ H,Pv xs.length σ H->D.nx σ H) :
  ∃W:Nat->Nat->St->Hp->Prop,(∃m,W 0 m σ H)/\∀i m σ H,W i m σ H->
   ((Itl K a).stop i H/\D.nx σ H)\/((Itl K a).go i H/\∃N:St->Hp->Prop,(∀σ' H',N σ' H'->∃m',m'<m/\W (i+1) m' σ' H')/\∀x H',(Itl K a).yld i H x H'->g x σ H' fun σ2 H2=>tb {D with nx:=N,ct:=N,bk:=D.nx} σ2 H2):=by
 refine⟨fun i m σ H=>m=xs.length-i/\i<=xs.length/\Pv i σ H,⟨xs.length,by simp,Nat.zero_le _,h0⟩,?_⟩
 rintro i m σ H ⟨rfl,hi,p⟩
 have q:=hl i σ H hi p
 by_cases hlt:i<xs.length
 ·refine .inr ⟨⟨xs,xs[i],q,by simp[hlt]⟩,Pv (i+1),fun σ' H' p'=>⟨xs.length-(i+1),by omega,rfl,hlt,p'⟩,fun x H' y=>?_⟩
  obtain⟨e,y⟩:=y
  subst e
  exact hs i x σ _ (y xs q) p
 ·have e:i=xs.length:=by omega
  subst e
  exact .inl ⟨⟨xs,q,nLr _⟩,hd σ H p⟩
theorem zhJ{lo:Int}{n:Nat}{g:TG}{tb:TS}{D:Ends}{σ:St}{H:Hp}(Pv:Nat->St->Hp->Prop)(h0:Pv 0 σ H)
  (hs :∀i σ H,i<n->Pv i σ H->g (.int (lo+i)) σ H fun σ2 H2=>tb {D with nx:=Pv (i+1),ct:=Pv (i+1),bk:=D.nx} σ2 H2) (hd :∀σ H,Pv n σ H->D.nx σ H) :
  ∃W:Nat->Nat->St->Hp->Prop,(∃m,W 0 m σ H)/\∀i m σ H,W i m σ H->
   ((Itr lo n).stop i H/\D.nx σ H)\/((Itr lo n).go i H/\∃N:St->Hp->Prop,(∀σ' H',N σ' H'->∃m',m'<m/\W (i+1) m' σ' H')/\∀x H',(Itr lo n).yld i H x H'->g x σ H' fun σ2 H2=>tb {D with nx:=N,ct:=N,bk:=D.nx} σ2 H2):=by
 refine⟨fun i m σ H=>m=n-i/\i<=n/\Pv i σ H,⟨n,by simp,Nat.zero_le _,h0⟩,?_⟩
 rintro i m σ H ⟨rfl,hi,p⟩
 by_cases hlt:i<n
 ·refine .inr ⟨hlt,Pv (i+1),fun σ' H' p'=>⟨n-(i+1),by omega,rfl,hlt,p'⟩,fun x H' y=>?_⟩
  obtain⟨e,y⟩:=y
  subst e y
  exact hs i σ _ hlt p
 ·have e:i=n:=by omega
  subst e
  exact .inl ⟨nLr _,hd σ H p⟩
abbrev R2:=V->V->Hp->VK->Prop
def OpR(X:Cx)(f:Value->Value->Sem Value)(r:R2):Prop:=
 ∀(pins:List (Addr×Obj)) (s:Shared) (σ:St) (H:Hp) (x y:V) (v u:Value) (Q:VK),Inv X pins σ H s->zZ x v->zZ y u->r x y H Q->
  wpAny (model X.prog X.w) X.A (f v u) (EP X pins σ Q) X.xe s
def UnR(X:Cx)(f:Value->Sem Value)(r:V->Hp->VK->Prop):Prop:=
 ∀(pins:List (Addr×Obj)) (s:Shared) (σ:St) (H:Hp) (x:V) (v:Value) (Q:VK),Inv X pins σ H s->zZ x v->r x H Q->
  wpAny (model X.prog X.w) X.A (f v) (EP X pins σ Q) X.xe s
def zhw(X:Cx)(f:Value)(r:List V->Hp->VK->Prop):Prop:=
 ∀(pins:List (Addr×Obj)) (s:Shared) (σ:St) (H:Hp) (xs:List V) (us:List Value) (Q:VK),Inv X pins σ H s->zQ xs us->r xs H Q->
  wpAny (model X.prog X.w) X.A (call f us) (EP X pins σ Q) X.xe s
def TruR(X:Cx)(r:V->Hp->(Bool->Hp->Prop)->Prop):Prop:=
 ∀(pins:List (Addr×Obj)) (s:Shared) (σ:St) (H:Hp) (x:V) (v:Value) (Q:Bool->Hp->Prop),Inv X pins σ H s->zZ x v->r x H Q->
  wpAny (model X.prog X.w) X.A (truthy v) (TP X pins σ Q) X.xe s
def tOp(r:R2)(ta tb:TE):TE:=fun σ H Q=>ta σ H fun x H1=>tb σ H1 fun y H2=>r x y H2 Q
def tUn(r:V->Hp->VK->Prop)(ta:TE):TE:=fun σ H Q=>ta σ H fun x H1=>r x H1 Q
inductive rI(C:Int->Int->Prop)(g:Int->Int->V)(x y:V)(H:Hp)(Q:VK):Prop|I:∀i j,x=.int i->y=.int j->C i j->Q (g i j) H->rI C g x y H Q
inductive rI0(g:Int->Int->V)(x y:V)(H:Hp)(Q:VK):Prop|I:∀i j,x=.int i->y=.int j->Q (g i j) H->rI0 g x y H Q
inductive rU(g:Int->V)(x:V)(H:Hp)(Q:VK):Prop|I:∀i,x=.int i->Q (g i) H->rU g x H Q
section
variable {X:Cx}{a b c:Expr}{ta tb tc:TE}{pos:Pos}
theorem binT(ha:PE X a ta)(hb:PE X b tb){pins:List (Addr×Obj)}{s:Shared}{σ:St}{H:Hp}{R:V->V->Hp->Prop}(I:Inv X pins σ H s)
  (h:ta σ H fun x H1=>tb σ H1 fun y H2=>R x y H2) {Q:Value->Shared->Prop} {f:Value->Value->Sem Value}
  (hf :∀v u s2 x y H2,Inv X pins σ H2 s2->zZ x v->zZ y u->R x y H2->wpAny (model X.prog X.w) X.A (f v u) Q X.xe s2) :
  wpAny (model X.prog X.w) X.A (eval a X.env) (fun v s₁=>wpAny (model X.prog X.w) X.A (eval b X.env) (fun u s₂=>wpAny (model X.prog X.w) X.A (f v u) Q X.xe s₂) X.xe s₁) X.xe s:=by
 refine thn (ha pins s σ H _ I h) fun v s1 ⟨x,H1,I1,r1,q1⟩=>?_
 refine thn (hb pins s1 σ H1 _ I1 q1) fun u s2 ⟨y,H2,I2,r2,q2⟩=>?_
 exact hf v u s2 x y H2 I2 r1 r2 q2
theorem zW{op:Operator}{r:R2}(ho:OpR X (binaryOp op) r)(ha:PE X a ta)(hb:PE X b tb):PE X (.BinOp a op b pos) (tOp r ta tb):=by
 intro pins s σ H Q I h
 exact wpAny_BinOp (binT ha hb I h fun v u s2 x y H2 I2 rx ry q=>ho pins s2 σ H2 x y v u Q I2 rx ry q)
theorem zAe{op:UnaryOp}{r:V->Hp->VK->Prop}(ho:UnR X (unaryOp op) r)(ha:PE X a ta):PE X (.UnaryOp op a pos) (tUn r ta):=by
 intro pins s σ H Q I h
 exact UnaryOp_ (thn (ha pins s σ H _ I h) fun v s1 ⟨x,H1,I1,r1,q1⟩=>ho pins s1 σ H1 x v Q I1 r1 q1)
theorem opI{f:Value->Value->Sem Value}{C:Int->Int->Prop}{g:Int->Int->Int}
  (rule :∀(i j:Int) (t u:Tok) (s:Shared) (Q:Value->Shared->Prop) (E:Value->Shared->Prop),C i j->Q (.int (g i j) s.toks) {s with toks:=s.toks+1}->wpAny (model X.prog X.w) X.A (f (.int i t) (.int j u)) Q E s) :
  OpR X f (rI C fun i j=>.int (g i j)):=by
 intro pins s σ H x y v u Q I rx ry h
 obtain⟨i,j,rfl,rfl,hc,q⟩:=h
 obtain⟨t,rfl⟩:=rx
 obtain⟨t',rfl⟩:=ry
 exact rule i j t t' s _ _ hc ⟨.int (g i j),H,I.tok _,⟨_,rfl⟩,q⟩
theorem opI0{f:Value->Value->Sem Value}{g:Int->Int->Int}
  (rule :∀(i j:Int) (t u:Tok) (s:Shared) (Q:Value->Shared->Prop) (E:Value->Shared->Prop),Q (.int (g i j) s.toks) {s with toks:=s.toks+1}->wpAny (model X.prog X.w) X.A (f (.int i t) (.int j u)) Q E s) :
  OpR X f (rI0 fun i j=>.int (g i j)):=by
 intro pins s σ H x y v u Q I rx ry h
 obtain⟨i,j,rfl,rfl,q⟩:=h
 obtain⟨t,rfl⟩:=rx
 obtain⟨t',rfl⟩:=ry
 exact rule i j t t' s _ _ ⟨.int (g i j),H,I.tok _,⟨_,rfl⟩,q⟩
theorem opB0{f:Value->Value->Sem Value}{g:Int->Int->Bool}
  (rule :∀(i j:Int) (t u:Tok) (s:Shared) (Q:Value->Shared->Prop) (E:Value->Shared->Prop),Q (.bool (g i j)) s->wpAny (model X.prog X.w) X.A (f (.int i t) (.int j u)) Q E s) :
  OpR X f (rI0 fun i j=>.bl (g i j)):=by
 intro pins s σ H x y v u Q I rx ry h
 obtain⟨i,j,rfl,rfl,q⟩:=h
 obtain⟨t,rfl⟩:=rx
 obtain⟨t',rfl⟩:=ry
 exact rule i j t t' s _ _ ⟨.bl (g i j),H,I,rfl,q⟩
theorem zb7:OpR X (binaryOp .Add) (rI0 fun i j=>.int (i+j)):=opI0 fun _ _ _ _ _ _ _ q=>add_int q
theorem zp1:OpR X (binaryOp .Sub) (rI0 fun i j=>.int (i-j)):=opI0 fun _ _ _ _ _ _ _ q=>sub_int q
theorem zBv:OpR X (binaryOp .Mod) (rI (fun _ j=>0<j) fun i j=>.int (i%j)):=opI fun i j _ _ _ _ _ hc q=>by
 have h1:(0:Int)<j:=hc
 exact mod_int' (by omega) (by rw[Int.fmod_eq_emod_of_nonneg i (by omega)];exact q)
theorem zAl:OpR X (binaryOp .Mod) (rI (fun _ j=>j≠0) fun i j=>.int (i.fmod j)):=opI fun _ _ _ _ _ _ _ hc q=>mod_int' hc q
theorem unI{f:Value->Sem Value}{g:Int->Int}
  (rule :∀(i:Int) (t:Tok) (s:Shared) (Q:Value->Shared->Prop) (E:Value->Shared->Prop),Q (.int (g i) s.toks) {s with toks:=s.toks+1}->wpAny (model X.prog X.w) X.A (f (.int i t)) Q E s) :
  UnR X f (rU fun i=>.int (g i)):=by
 intro pins s σ H x v Q I rx h
 obtain⟨i,rfl,q⟩:=h
 obtain⟨t,rfl⟩:=rx
 exact rule i t s _ _ ⟨.int (g i),H,I.tok _,⟨_,rfl⟩,q⟩
theorem zyb:UnR X (unaryOp .USub) (rU fun i=>.int (-i)):=unI fun _ _ _ _ _ q=>neg_int q
end
def scal:V->V->Bool
 | .non,.non=>true|.non,.int _=>true|.int _,.non=>true|.non,.bl _=>true|.bl _,.non=>true|.non,.str _=>true|.str _,.non=>true
 | .int _,.int _=>true|.bl _,.bl _=>true|.str _,.str _=>true|.byt _,.byt _=>true
 | .int _,.str _=>true|.str _,.int _=>true|.bl _,.str _=>true|.str _,.bl _=>true
 | _,_=>false
def rEq:R2:=fun x y H Q=>scal x y=true/\Q (.bl (decide (x=y))) H
def rNe:R2:=fun x y H Q=>scal x y=true/\Q (.bl (!decide (x=y))) H
theorem zwx{i j:Int}:decide (V.int i=V.int j)=(i==j):=by
 rw[Bool.eq_iff_iff]
 simp
theorem zyc{i j:Bool}:decide (V.bl i=V.bl j)=(i==j):=by
 rw[Bool.eq_iff_iff]
 simp
theorem zwy{i j:Str}:decide (V.str i=V.str j)=(i==j):=by
 rw[Bool.eq_iff_iff]
 simp
theorem zwz{i j:Array UInt8}:decide (V.byt i=V.byt j)=(i.toList==j.toList):=by
 rw[Bool.eq_iff_iff]
 cases i
 cases j
 simp
section
variable {X:Cx}{a b c:Expr}{ta tb tc:TE}{pos:Pos}
theorem za3{pins:List (Addr×Obj)}{σ:St}{H:Hp}{s:Shared}{Q:VK}{k k':Bool}(I:Inv X pins σ H s)(q:Q (.bl k) H)(e:k=k'):EP X pins σ Q (.bool k') s:=by
 subst e
 exact⟨.bl k,H,I,rfl,q⟩
theorem zb0:OpR X (compareOp .Eq) rEq:=by
 intro pins s σ H x y v u Q I rx ry h
 obtain⟨hs,q⟩:=h
 cases x with
 | non=>
  cases rx
  cases y with
  | non=>cases ry;exact PySem.EqNone.eq_none_none (za3 I q (by simp))
  | bl j=>cases ry;exact PySem.EqNone.eq_none_bool (za3 I q (by simp))
  | int j=>obtain⟨t',rfl⟩:=ry;exact PySem.EqNone.eq_none_int (za3 I q (by simp))
  | str j=>obtain⟨t',rfl⟩:=ry;exact PySem.EqNone.eq_none_str (za3 I q (by simp))
  | _=>exact absurd (show false=true from hs) bFt
 | bl i=>
  cases rx
  cases y with
  | non=>cases ry;exact PySem.EqNone.eq_bool_none (za3 I q (by simp))
  | bl j=>cases ry;exact eq_bool (za3 I q zyc)
  | str j=>obtain⟨t',rfl⟩:=ry;exact PySem.EqMixed.eq_bool_str (za3 I q (by simp))
  | _=>exact absurd (show false=true from hs) bFt
 | int i=>
  obtain⟨t,rfl⟩:=rx
  cases y with
  | non=>cases ry;exact PySem.EqNone.eq_int_none (za3 I q (by simp))
  | int j=>obtain⟨t',rfl⟩:=ry;exact eq_int (za3 I q zwx)
  | str j=>obtain⟨t',rfl⟩:=ry;exact PySem.EqMixed.eq_int_str (za3 I q (by simp))
  | _=>exact absurd (show false=true from hs) bFt
 | str i=>
  obtain⟨t,rfl⟩:=rx
  cases y with
  | non=>cases ry;exact PySem.EqNone.eq_str_none (za3 I q (by simp))
  | bl j=>cases ry;exact PySem.EqMixed.eq_str_bool (za3 I q (by simp))
  | int j=>obtain⟨t',rfl⟩:=ry;exact PySem.EqMixed.eq_str_int (za3 I q (by simp))
  | str j=>obtain⟨t',rfl⟩:=ry;exact eq_str (za3 I q zwy)
  | _=>exact absurd (show false=true from hs) bFt
 | byt i=>
  obtain⟨t,rfl⟩:=rx
  cases y with
  | byt j=>obtain⟨t',rfl⟩:=ry;exact PySem.W.eq_bytes (za3 I q zwz)
  | _=>exact absurd (show false=true from hs) bFt
 | _=>cases y<;>exact absurd (show false=true from hs) bFt
theorem ztz:OpR X (compareOp .NotEq) rNe:=by
 intro pins s σ H x y v u Q I rx ry h
 obtain⟨hs,q⟩:=h
 cases x with
 | non=>
  cases rx
  cases y with
  | non=>cases ry;exact PySem.EqNone.ne_none_none (za3 I q (by simp))
  | bl j=>cases ry;exact PySem.EqNone.ne_none_bool (za3 I q (by simp))
  | int j=>obtain⟨t',rfl⟩:=ry;exact PySem.EqNone.ne_none_int (za3 I q (by simp))
  | str j=>obtain⟨t',rfl⟩:=ry;exact PySem.EqNone.ne_none_str (za3 I q (by simp))
  | _=>exact absurd (show false=true from hs) bFt
 | bl i=>
  cases rx
  cases y with
  | non=>cases ry;exact PySem.EqNone.ne_bool_none (za3 I q (by simp))
  | bl j=>cases ry;exact ne_bool (za3 I q (congrArg not zyc))
  | str j=>obtain⟨t',rfl⟩:=ry;exact PySem.EqMixed.ne_bool_str (za3 I q (by simp))
  | _=>exact absurd (show false=true from hs) bFt
 | int i=>
  obtain⟨t,rfl⟩:=rx
  cases y with
  | non=>cases ry;exact PySem.EqNone.ne_int_none (za3 I q (by simp))
  | int j=>obtain⟨t',rfl⟩:=ry;exact ne_int (za3 I q (congrArg not zwx))
  | str j=>obtain⟨t',rfl⟩:=ry;exact PySem.EqMixed.ne_int_str (za3 I q (by simp))
  | _=>exact absurd (show false=true from hs) bFt
 | str i=>
  obtain⟨t,rfl⟩:=rx
  cases y with
  | non=>cases ry;exact PySem.EqNone.ne_str_none (za3 I q (by simp))
  | bl j=>cases ry;exact PySem.EqMixed.ne_str_bool (za3 I q (by simp))
  | int j=>obtain⟨t',rfl⟩:=ry;exact PySem.EqMixed.ne_str_int (za3 I q (by simp))
  | str j=>obtain⟨t',rfl⟩:=ry;exact ne_str (za3 I q (congrArg not zwy))
  | _=>exact absurd (show false=true from hs) bFt
 | byt i=>
  obtain⟨t,rfl⟩:=rx
  cases y with
  | byt j=>obtain⟨t',rfl⟩:=ry;exact PySem.W.ne_bytes (za3 I q (congrArg not zwz))
  | _=>exact absurd (show false=true from hs) bFt
 | _=>cases y<;>exact absurd (show false=true from hs) bFt
theorem zgq:OpR X (compareOp .Lt) (rI0 fun i j=>.bl (decide (i<j))):=opB0 fun _ _ _ _ _ _ _ q=>lt_int q
theorem zds:OpR X (compareOp .LtE) (rI0 fun i j=>.bl (decide (i<=j))):=opB0 fun _ _ _ _ _ _ _ q=>le_int q
theorem zlI:OpR X (compareOp .Gt) (rI0 fun i j=>.bl (decide (j<i))):=opB0 fun _ _ _ _ _ _ _ q=>gt_int q
theorem zAf:OpR X (compareOp .GtE) (rI0 fun i j=>.bl (decide (j<=i))):=opB0 fun _ _ _ _ _ _ _ q=>ge_int q
theorem nomark(b:Expr){op:CmpOp}(h:op≠.In:=by decide)(h2:op≠.NotIn:=by decide):behindInMarks op b=false:=by
 have e1:(op==CmpOp.In)=false:=by cases op<;>first|rfl|exact absurd rfl h
 have e2:(op==CmpOp.NotIn)=false:=by cases op<;>first|rfl|exact absurd rfl h2
 cases b<;>simp[behindInMarks,e1,e2]
theorem zq2{op:CmpOp}{r:R2}(ho:OpR X (compareOp op) r)(ha:PE X a ta)(hb:PE X b tb)(hm:behindInMarks op b=false):PE X (.Compare a [op] [b] pos) (tOp r ta tb):=by
 intro pins s σ H Q I h
 exact wpAny_Compare1 (binT ha hb I h fun v u s2 x y H2 I2 rx ry q=>ho pins s2 σ H2 x y v u Q I2 rx ry q) hm
def tTest(t:TE):TT:=fun σ H Q=>t σ H fun x H1=>JB x H1 Q
theorem z5{op:CmpOp}{r:R2}(ho:OpR X (compareOp op) r)(ha:PE X a ta)(hb:PE X b tb)(hm:behindInMarks op b=false):PT X (.Compare a [op] [b] pos) (tTest (tOp r ta tb)):=by
 intro pins s σ H Q I h
 refine wpAny_isTrue_Compare1 (thn (ha pins s σ H _ I h) fun v s1 ⟨x,H1,I1,r1,q1⟩=>thn (hb pins s1 σ H1 _ I1 q1) fun u s2 ⟨y,H2,I2,r2,q2⟩=>
  thn (ho pins s2 σ H2 x y v u _ I2 r1 r2 q2) fun c s3 ⟨z,H3,I3,r3,k,e,q3⟩=>?_) hm
 subst e
 cases r3
 exact wpAny_truthy_bool ⟨H3,I3,q3⟩
def tChain(r r':R2)(ta tb tc:TE):TE:=fun σ H Q=>ta σ H fun x H1=>tb σ H1 fun y H2=>r x y H2 fun z H3=>∃k,z=.bl k/\
 (if k=true then tc σ H3 fun w' H4=>r' y w' H4 Q else Q (.bl false) H3)
theorem zf0{op op':CmpOp}{r r':R2}(ho:OpR X (compareOp op) r)(ho':OpR X (compareOp op') r')(ha:PE X a ta)(hb:PE X b tb)(hc:PE X c tc)
  (hm:lastMarks [op,op'] [b,c]=false:=by with_unfolding_all rfl):PE X (.Compare a [op,op'] [b,c] pos) (tChain r r' ta tb tc):=by
 intro pins s σ H Q I h
 refine Compare_chain (thn (ha pins s σ H _ I h) fun v s1 ⟨x,H1,I1,r1,q1⟩=>chain_link (thn (hb pins s1 σ H1 _ I1 q1) fun u s2 ⟨y,H2,I2,r2,q2⟩=>
  thn (ho pins s2 σ H2 x y v u _ I2 r1 r2 q2) fun d s3 ⟨z,H3,I3,r3,k,e,q3⟩=>?_)) hm
 subst e
 cases r3
 refine wpAny_truthy_bool ?_
 cases k with
 | false=>exact ite_ff ⟨.bl false,H3,I3,rfl,q3⟩
 | true=>exact ite_tt (chain_last (thn (hc pins s3 σ H3 _ I3 q3) fun w' s4 ⟨z',H4,I4,r4,q4⟩=>ho' pins s4 σ H4 y z' u w' Q I4 r2 r4 q4))
theorem zpo{op op':CmpOp}{r r':R2}(ho:OpR X (compareOp op) r)(ho':OpR X (compareOp op') r')(ha:PE X a ta)(hb:PE X b tb)(hc:PE X c tc)
  (hm:lastMarks [op,op'] [b,c]=false:=by with_unfolding_all rfl):PT X (.Compare a [op,op'] [b,c] pos) (tTest (tChain r r' ta tb tc)):=by
 intro pins s σ H Q I h
 refine isTrue_chain (thn (ha pins s σ H _ I h) fun v s1 ⟨x,H1,I1,r1,q1⟩=>test_link (thn (hb pins s1 σ H1 _ I1 q1) fun u s2 ⟨y,H2,I2,r2,q2⟩=>
  thn (ho pins s2 σ H2 x y v u _ I2 r1 r2 q2) fun d s3 ⟨z,H3,I3,r3,k,e,q3⟩=>?_)) hm
 subst e
 cases r3
 refine wpAny_truthy_bool ?_
 cases k with
 | false=>
  obtain⟨k',e',q'⟩:=q3
  cases e'
  exact ite_ff ⟨H3,I3,q'⟩
 | true=>
  refine ite_tt (test_last (thn (hc pins s3 σ H3 _ I3 q3) fun w' s4 ⟨z',H4,I4,r4,q4⟩=>thn (ho' pins s4 σ H4 y z' u w' _ I4 r2 r4 q4) fun d' s5 ⟨z2,H5,I5,r5,k2,e2,q5⟩=>?_))
  subst e2
  cases r5
  exact wpAny_truthy_bool ⟨H5,I5,q5⟩
def TruV(K:Fg)(x:V)(H:Hp)(k:Bool):Prop:=
 match x with
 | .non=>k=false
 | .bl b=>k=b
 | .int i=>k=(i != 0)
 | .str y=>y.length<=sizeLine/\k=((y.length:Int) != 0)
 | .byt y=>y.size<=sizeLine/\k=((y.size:Int) != 0)
 | .ref p=>(∃xs,SqL K H p xs/\k = !xs.isEmpty)\/(∃xs,SqT K H p xs/\k = !xs.isEmpty)\/∃kvs,H p=some (.dK kvs)/\k = !kvs.isEmpty
 | _=>False
theorem zw7{κ:Type}{kvs:List (κ×V)}{vs:List (κ×Value)}(r:KV kvs vs):(!vs.isEmpty) = !kvs.isEmpty:=by
 cases r<;>rfl
theorem zp2{xs:List V}{its:List Value}(r:zQ xs its):(!its.toArray.isEmpty) = !xs.isEmpty:=by
 cases r<;>simp
theorem zkY:(sizeLine:Nat)<2 ^ 63:=by rw[sizeLine_eq];decide
theorem zBw:TruR X (fun x H Q=>∃k,TruV X.K x H k/\Q k H):=by
 intro pins s σ H x v Q I rx h
 obtain⟨k,e,q⟩:=h
 have hl:=zkY
 have hs:sizeLine=16777216:=sizeLine_eq
 cases x with
 | non=>
  cases rx
  have e':k=false:=e
  subst e'
  exact truthy_none ⟨H,I,q⟩
 | bl b=>
  cases rx
  have e':k=b:=e
  subst e'
  exact wpAny_truthy_bool ⟨H,I,q⟩
 | int i=>
  obtain⟨t,rfl⟩:=rx
  have e':k=(i != 0):=e
  subst e'
  exact PySem.P.truthy_int ⟨H,I,q⟩
 | str y=>
  obtain⟨t,rfl⟩:=rx
  obtain⟨hy,e'⟩:y.length<=sizeLine/\k=((y.length:Int) != 0):=e
  subst e'
  exact PySem.P.truthy_str (by omega) ⟨H,I.tok _,q⟩
 | byt y=>
  obtain⟨t,rfl⟩:=rx
  obtain⟨hy,e'⟩:y.size<=sizeLine/\k=((y.size:Int) != 0):=e
  subst e'
  exact PySem.W.truthy_bytes (by omega) ⟨H,I.tok _,q⟩
 | ref p=>
  cases rx
  have e':(∃xs,SqL X.K H p xs/\k = !xs.isEmpty)\/(∃xs,SqT X.K H p xs/\k = !xs.isEmpty)\/∃kvs,H p=some (.dK kvs)/\k = !kvs.isEmpty:=e
  rcases e' with⟨xs,hx,e'⟩|⟨xs,hx,e'⟩|⟨kvs,hx,e'⟩
  ·subst e'
   obtain⟨its,r,pl,hz⟩:=I.list hx
   have hlen:=r.length
   exact wpAny_truthy_list pl.isList (by simp only[List.size_toArray];omega) ⟨H,I.tok _,by rw[zp2 r];exact q⟩
  ·subst e'
   obtain⟨its,r,pl,hz⟩:=I.tuple hx
   have hlen:=r.length
   exact truthy_tuple pl (by simp only[List.size_toArray];omega) ⟨H,I.tok _,by rw[zp2 r];exact q⟩
  ·subst e'
   obtain⟨hz,hS,vs,r,m⟩:kvs.length<=sizeLine/\(p==sysModules)=false/\∃vs,KV kvs vs/\s.heap.DictOf (zbv X.prog X.w) p vs:=I.hok p _ hx
   have hlen:kvs.length=vs.length:=Paired.length r
   exact wpAny_truthy_dict hS m (by omega) ⟨H,I.tok _,by rw[zw7 r];exact q⟩
 | _=>exact(show False from e).elim
theorem zaG(ha:PE X a ta)(he :∀whole,isTrue a X.env whole=(do let v<-whole;standAt a.pos;holding [v] (truthy v))) :
  PT X a (fun σ H Q=>ta σ H fun x H'=>∃k,TruV X.K x H' k/\Q k H'):=by
 intro pins s σ H Q I h
 exact isTrue_plain (thn (ha pins s σ H _ I h) fun v s1 ⟨x,H1,I1,r1,q1⟩=>zBw pins s1 σ H1 x v Q I1 r1 q1) (he _)
theorem vals1{x:V}{us:List Value}(r:zQ [x] us) :∃u,us=[u]/\zZ x u:=by
 cases r with
 | cons r1 r2=>cases r2;exact⟨_,rfl,r1⟩
theorem vals2{x y:V}{us:List Value}(r:zQ [x,y] us) :∃u w',us=[u,w']/\zZ x u/\zZ y w':=by
 cases r with
 | cons r1 r2=>
  cases r2 with
  | cons r3 r4=>cases r4;exact⟨_,_,rfl,r1,r3⟩
theorem ztH:zhw X (.builtin "abs") (fun xs H Q=>∃i,xs=[.int i]/\Q (.int (if i<0 then -i else i)) H):=by
 intro pins s σ H xs us Q I r h
 obtain⟨i,rfl,q⟩:=h
 obtain⟨u,rfl,t,rfl⟩:=vals1 r
 exact call_abs_int fun u tk=>⟨.int (if i<0 then -i else i),H,I.tok _,⟨_,rfl⟩,q⟩
theorem zyd(hc:X.calm=true):zhw X (.builtin "max") (fun xs H Q=>∃i j,xs=[.int i,.int j]/\Q (.int (if j>i then j else i)) H):=by
 intro pins s σ H xs us Q I r h
 obtain⟨i,j,rfl,q⟩:=h
 obtain⟨u,w',rfl,⟨t,rfl⟩,⟨t',rfl⟩⟩:=vals2 r
 refine max_two_ints (I.ok.hd hc) fun h' tk k=>⟨_,H,I.kept k,?_,q⟩
 by_cases hj:j>i
 ·rw[if_pos hj,if_pos hj];exact⟨_,rfl⟩
 ·rw[if_neg hj,if_neg hj];exact⟨_,rfl⟩
end
structure ObjM(h:Heap)(x dx C:Addr)(mA:Str->Option Value):Prop where
 obj:h.get? x=some (PySem.W.instObj C dx)
 ns:h.Ns1 dx mA
 ne:dx≠x
theorem zye{h:Heap}{dx:Addr}{mA:Str->Option Value}(n:h.Ns1 dx mA) :∃od,h.get? dx=some od/\∀name,PySem.W.lookIn name od=some (mA name):=by
 obtain⟨o,es,ep,ho,hd,hk,_,hm⟩:=n
 refine⟨o,ho,fun name=>?_⟩
 have e:=hm name
 unfold nsFind findBy at e
 rw[<-Array.find?_toList]at e
 unfold PySem.W.lookIn
 rw[hd]
 dsimp only
 split
 ·rename_i y q
  rw[q]at e
  exact congrArg some e
 ·rename_i q
  rw[q]at e
  have a:es.toList.any (·.refKey)=false:=by
   rw[List.any_eq_false]
   intro y hy
   obtain⟨z,t,hkey⟩:=hk y (Array.mem_toList_iff.mp hy)
   simp[DictEntry.refKey,hkey]
  have a':¬es.toList.any (·.refKey)=true:=by rw[a];exact bFt
  rw[if_neg a']
  exact congrArg some e
theorem ObjM.look{h:Heap}{x dx C:Addr}{mA:Str->Option Value}(I:ObjM h x dx C mA) :∃od,PySem.W.InstAt h x (PySem.W.instObj C dx) C (some od)/\∀name,PySem.W.lookIn name od=some (mA name):=
 let⟨od,ho,hl⟩:=zye I.ns
 ⟨od,⟨I.obj,rfl,rfl,ho⟩,hl⟩
section
variable {prog:Program}{w:World}{A:Around}{E:Value->Shared->Prop}{s:Shared}{K:Fg}{x dx C f:Addr}{mA:Str->Option Value}{name:Str}{v:Value}
theorem zAm{expr:Bool}{Q:Value->Shared->Prop}(X:K.In s.heap)(I:ObjM s.heap x dx C mA)(hg:PySem.W.plainGet K C name=true)(hh:PySem.W.hasDictIn K C=true)
  (ha:PySem.W.findIn K (.ref C) name=some none) (hv:mA name=some v) (hv':PySem.W.handedIn v=true) (h:Q v {s with toks:=s.toks+1}) :
  wpAny (model prog w) A (getAttr (.ref x) name expr) Q E s:=by
 obtain⟨od,J,hl⟩:=I.look
 exact PySem.W.get_value X J (PySem.W.plainGet_of hg).1 (PySem.W.findObj_own hh ha rfl (by rw[hl,hv])) hv' h
theorem zzh{pl:Sem Bool}{Q:Value×List Value->Shared->Prop}(X:K.In s.heap)(I:ObjM s.heap x dx C mA)(hg:PySem.W.plainGet K C name=true)
  (hf:PySem.W.findIn K (.ref C) name=some (some (.ref f))) (ht:PySem.W.isFn K (.ref f)=true) (hv:mA name=none) (h:Q (.ref f,[.ref x]) s) :
  wpAny (model prog w) A (getMethod (.ref x) name pl) Q E s:=by
 obtain⟨od,J,hl⟩:=I.look
 exact PySem.W.method_fn X J (PySem.W.plainGet_of hg).1 (PySem.W.plainGet_of hg).2 hf (beq_iff_eq.mp ht) (by show(PySem.W.lookIn name od).map (·.isSome)=some false;rw[hl,hv];rfl) h
theorem zq3{ns:List Str}{Q:Unit->Shared->Prop}(X:K.In s.heap)(I:ObjM s.heap x dx C mA)
  (hs:PySem.W.findIn K (.ref C) "__setattr__" = some (some (.builtin "object.__setattr__"))) (hp:PySem.W.plainOver K C=true) (ht:PySem.W.takerIn K C name=some none) (hh:PySem.W.hasDictIn K C=true)
  (hw:PySem.Within mA ns) (hsz:ns.length<=sizeLine)
  (h :∀h',ObjM h' x dx C (fun y=>if y=name then some v else mA y)->Heap.SameBut dx s.heap h'->Q () {s with heap:=h',toks:=s.toks+2}) :
  wpAny (model prog w) A (setAttr (.ref x) name v) Q E s:=by
 obtain⟨od,J,hl⟩:=I.look
 refine PySem.W.set_plain X J hs (PySem.W.osa_open (s:={s with toks:=s.toks+1}) (r:=none) X J hp ht fun b=>?_)
 obtain⟨cd,hc,hd'⟩:=PySem.W.any_some hh
 have hx:s.heap.get? x=some ⟨.ref C,some dx,.plain,#[]⟩:=I.obj
 refine wpAny_bind (wpAny_pure (wpAny_bind (wpAny_bind (wpAny_loadPart hx (wpAny_bind (PySem.W.Looks.here (s:={s with toks:=s.toks+1}) (PySem.W.looks_clsIn X hc) ?_))))))
 rw[hd']
 refine wpAny_pure (a:=some dx) (wpAny_bind (wpAny_pure (wpAny_bind ?_)))
 refine wpAny_nsSet1 (s:={s with toks:=s.toks+1}) I.ns fun h' hn2 hs2=>?_
 obtain⟨oD,esD,epD,hoD,hdD,hcD⟩:=hn2.count (PySem.Within.cons name v hw)
 refine wpAny_bind (wpAny_lookBehind hoD (by rw[hdD];exact pastItsLine_dict (nLt hcD (by rw[List.length_cons];omega))) ?_)
 exact wpAny_pure (h _ ⟨(hs2.2 _ (Ne.symm I.ne)).trans I.obj,hn2,I.ne⟩ hs2)
theorem zzi{R:Result->Shared->Prop}{vs:List Value}{kw:List (Str×Value)}(X:K.In s.heap)(hm:PySem.W.makesIn K C=true)
  (hi:PySem.W.findIn K (.ref C) "__init__" = some (some (.ref f))) (hf:PySem.W.typeIn K (.ref f)=some (.type "function"))
  (h:codeAny (model prog w) (A.under (.builtin "type.__call__" ⟨.ref C::vs,kw⟩)) (.call (.ref f) ⟨.ref (s.heap.objs.size+1)::vs,kw⟩) (PySem.W.InitBack (s.heap.objs.size+1) R)
   {s with heap:=(s.heap.push PySem.W.emptyDict).push (PySem.W.instObj C s.heap.objs.size)}) :
  codeAny (model prog w) A (.call (.ref C) ⟨vs,kw⟩) R s:=by
 obtain⟨hh,g,d,t,os⟩:=s
 exact PySem.W.make_core (PySem.W.makes_of X hm) (PySem.W.looks_findIn X hi) (fun self=>PySem.W.bind_fn X self hf) (.inl rfl) h
end
def zK(f:Str)(v:V):List (Str×V)->List (Str×V)
 | []=>[(f,v)]
 | (g,x)::r=>if g=f then(g,v)::r else(g,x)::zK f v r
theorem zy(f g:Str)(v:V) :∀fs:List (Str×V),(zK f v fs).lookup g=if g=f then some v else fs.lookup g
 | []=>by
  show List.lookup g [(f,v)]=_
  by_cases h:g=f
  ·have hb:(g==f)=true:=beq_iff_eq.mpr h
   simp only[List.lookup,hb,if_pos h]
  ·have hb:(g==f)=false:=beq_eq_false_iff_ne.mpr h
   simp only[List.lookup,hb,if_neg h]
 | (k,x)::r=>by
  have ih:=zy f g v r
  rw[show zK f v ((k,x)::r)=(if k=f then(k,v)::r else(k,x)::zK f v r)from rfl]
  by_cases hk:k=f
  ·rw[if_pos hk]
   by_cases h:g=k
   ·have hb:(g==k)=true:=beq_iff_eq.mpr h
    simp only[List.lookup,hb,if_pos (h.trans hk)]
   ·have hb:(g==k)=false:=beq_eq_false_iff_ne.mpr h
    simp only[List.lookup,hb,if_neg (fun e:g=f=>h (e.trans hk.symm))]
  ·rw[if_neg hk]
   by_cases h:g=k
   ·have hb:(g==k)=true:=beq_iff_eq.mpr h
    simp only[List.lookup,hb,if_neg (fun e:g=f=>hk (h.symm.trans e))]
   ·have hb:(g==k)=false:=beq_eq_false_iff_ne.mpr h
    simp only[List.lookup,hb]
    exact ih
theorem zmX(f:Str)(v:V) :∀fs:List (Str×V),f∈(zK f v fs).map (·.1)/\∀g,g∈fs.map (·.1)->g∈(zK f v fs).map (·.1)
 | []=>⟨by simp[zK],fun g h=>by simp at h⟩
 | (k,x)::r=>by
  obtain⟨i1,i2⟩:=zmX f v r
  rw[show zK f v ((k,x)::r)=(if k=f then(k,v)::r else(k,x)::zK f v r)from rfl]
  by_cases hk:k=f
  ·rw[if_pos hk]
   subst hk
   exact⟨by simp,fun g h=>by simpa using h⟩
  ·rw[if_neg hk]
   refine⟨?_,fun g h=>?_⟩
   ·rw[List.map_cons]
    exact lMc _ i1
   ·rw[List.map_cons]at h⊢
    rcases List.mem_cons.mp h with e|e
    ·exact List.mem_cons.mpr (.inl e)
    ·exact lMc _ (i2 g e)
theorem zoN(f:Str)(v:V) :∀fs:List (Str×V),(zK f v fs).length<=fs.length+1
 | []=>by simp[zK]
 | (k,x)::r=>by
  have ih:=zoN f v r
  rw[show zK f v ((k,x)::r)=(if k=f then(k,v)::r else(k,x)::zK f v r)from rfl]
  by_cases hk:k=f
  ·rw[if_pos hk,List.length_cons,List.length_cons];omega
  ·rw[if_neg hk,List.length_cons,List.length_cons];omega
theorem RelO.some_of{v:V}{o:Option Value}(r:RelO (some v) o) :∃u,o=some u/\zZ v u:=by
 cases o with
 | none=>exact(show False from r).elim
 | some u=>exact⟨u,rfl,r⟩
theorem RelO.none_of{o:Option Value}(r:RelO none o):o=none:=by
 cases o with
 | none=>rfl
 | some u=>exact(show False from r).elim
theorem zyf{v:V}{u:Value}(r:zZ v u):PySem.W.handedIn u=true:=by
 cases v with
 | non=>cases (show u=Value.none from r);rfl
 | bl b=>cases (show u=Value.bool b from r);rfl
 | int i=>obtain⟨t,e⟩:=(show∃t,u=Value.int i t from r);cases e;rfl
 | str x=>obtain⟨t,e⟩:=(show∃t,u=Value.str x t from r);cases e;rfl
 | byt b=>obtain⟨t,e⟩:=(show∃t,u=Value.bytes b t from r);cases e;rfl
 | flt b=>obtain⟨t,e⟩:=(show∃t,u=Value.float b t from r);cases e;rfl
 | ref a=>cases (show u=Value.ref a from r);rfl
 | ty n=>cases (show u=Value.type n from r);rfl
section
variable {P:Program}{w:World}{H H':Hp}{h h':Heap}{a C dx:Addr}{fs fs':List (Str×V)}
theorem zq4(hok:HOk P w H h)(e:H a=some (.ins C dx fs)) :∃mA,ObjM h a dx C mA/\(∀f,RelO (fs.lookup f) (mA f))/\PySem.Within mA (fs.map (·.1))/\fs.length<=1000/\H dx=some (.own a):=by
 obtain⟨d,z,ne,ob,mA,n,r,q⟩:=(show zbr P w H h a (.ins C dx fs)from hok a _ e)
 exact⟨mA,⟨ob,n,ne⟩,r,q,z,d⟩
end
structure Cls(K:Fg)(C:Addr):Prop where
 pg:PySem.W.plainGet K C Str.empty=true
 hd:PySem.W.hasDictIn K C=true
 po:PySem.W.plainOver K C=true
 sa:PySem.W.findIn K (.ref C) "__setattr__" = some (some (.builtin "object.__setattr__"))
theorem Cls.get{K:Fg}{C:Addr}(c:Cls K C)(f:Str):PySem.W.plainGet K C f=true:=c.pg
def zaL(K:Fg)(C:Addr)(f:Str):Prop:=PySem.W.findIn K (.ref C) f=some none
theorem zaL.taker{K:Fg}{C:Addr}{f:Str}(n:zaL K C f):PySem.W.takerIn K C f=some none:=by
 unfold PySem.W.takerIn
 rw[show PySem.W.findIn K (.ref C) f=some none from n]
 rfl
structure zbg(K:Fg)(C:Addr)(m:Str)(f:Addr):Prop where
 at_:PySem.W.findIn K (.ref C) m=some (some (.ref f))
 fn:PySem.W.isFn K (.ref f)=true
 kp:PySem.W.keepIn K (.ref f)=true
section
variable {X:Cx}{pins:List (Addr×Obj)}{σ:St}{H:Hp}{s:Shared}{a C dx:Addr}{fs:List (Str×V)}{f:Str}{v:V}{A:Around}{E:Value->Shared->Prop}
theorem zp3{b:Bool}{Q:Value->Shared->Prop}(I:Inv X pins σ H s)(e:H a=some (.ins C dx fs))(c:Cls X.K C)(n:zaL X.K C f)(l:fs.lookup f=some v)
  (h :∀u s',Inv X pins σ H s'->zZ v u->Q u s'):wpAny (model X.prog X.w) A (getAttr (.ref a) f b) Q E s:=by
 obtain⟨mA,O,r,_,_,_⟩:=zq4 I.hok e
 obtain⟨u,hu,ru⟩:=RelO.some_of (v:=v) (o:=mA f) (by rw[<-l];exact r f)
 exact zAm I.kIn O (c.get f) c.hd n hu (zyf ru) (h u _ (I.tok _) ru)
theorem zp4{m:Str}{g:Addr}{pl:Sem Bool}{Q:Value×List Value->Shared->Prop}(I:Inv X pins σ H s)(e:H a=some (.ins C dx fs))(c:Cls X.K C)(k:zbg X.K C m g)(l:fs.lookup m=none)
  (h:Q (.ref g,[.ref a]) s):wpAny (model X.prog X.w) A (getMethod (.ref a) m pl) Q E s:=by
 obtain⟨mA,O,r,_,_,_⟩:=zq4 I.hok e
 have hn:mA m=none:=RelO.none_of (by rw[<-l];exact r m)
 exact zzh I.kIn O (c.get m) k.at_ k.fn hn h
theorem zp5{y:V}{u:Value}{Q:Unit->Shared->Prop}(I:Inv X pins σ H s)(e:H a=some (.ins C dx fs))(c:Cls X.K C)(n:zaL X.K C f)(hl:fs.length<1000)(ry:zZ y u)
  (h :∀s',Inv X pins σ (upd H a (.ins C dx (zK f y fs))) s'->Q () s'):wpAny (model X.prog X.w) A (setAttr (.ref a) f u) Q E s:=by
 obtain⟨mA,O,r,wi,_,ho⟩:=zq4 I.hok e
 have hz:(fs.map (·.1)).length<=sizeLine:=by rw[lmm,sizeLine_eq];omega
 refine zq3 I.kIn O c.sa c.po n.taker c.hd wi hz fun h' O' sb=>h _ ?_
 have hd :∃o,h'.get? dx=some o:=let⟨o,_,_,e',_⟩:=O'.ns;⟨o,e'⟩
 refine I.write (x:=a) (e:=dx) (by rw[e];exact True.intro) (.inr ho) (fun b q hb z=>(sb.2 b hb).trans z) hd ?_
 refine⟨by rw[zf O.ne];exact ho,?_,O.ne,O'.obj,_,O'.ns,fun g=>?_,fun g hg=>?_⟩
 ·have:=zoN f y fs;omega
 ·show RelO ((zK f y fs).lookup g) (if g=f then some u else mA g)
  rw[zy]
  by_cases q:g=f
  ·rw[if_pos q,if_pos q];exact ry
  ·rw[if_neg q,if_neg q];exact r g
 ·by_cases q:g=f
  ·rw[q];exact(zmX f y fs).1
  ·refine(zmX f y fs).2 g (wi g fun z=>hg ?_)
   show(if g=f then some u else mA g)=none
   rw[if_neg q];exact z
theorem Inv.made(I:Inv X pins σ H s):Inv X pins σ (upd (upd H s.heap.objs.size (.own (s.heap.objs.size+1))) (s.heap.objs.size+1) (.ins C s.heap.objs.size []))
  {s with heap:=(s.heap.push PySem.W.emptyDict).push (PySem.W.instObj C s.heap.objs.size)}:=by
 have e1:(s.heap.push PySem.W.emptyDict).get? s.heap.objs.size=some PySem.W.emptyDict:=Heap.get?_push_size s.heap rfl
 have e2:((s.heap.push PySem.W.emptyDict).push (PySem.W.instObj C s.heap.objs.size)).get? (s.heap.objs.size+1)=some (PySem.W.instObj C s.heap.objs.size):=by
  have:=Heap.get?_push_size (s.heap.push PySem.W.emptyDict) (o:=PySem.W.instObj C s.heap.objs.size) rfl
  rwa[Heap.size_push]at this
 have e3:(s.heap.push PySem.W.emptyDict).Ns s.heap.objs.size (fun _=>none):=⟨PySem.W.emptyDict,#[],_,e1,rfl,(fun e he=>absurd he (by simp)),fun _=>rfl⟩
 have I1:=I.laid (a:=s.heap.objs.size) (o:=.own (s.heap.objs.size+1)) (h':=s.heap.push PySem.W.emptyDict) (t':=s.toks) (fun b u q=>Heap.get?_push_of_some _ q) (nLr _) ⟨_,e1⟩
 refine I1.laid (a:=s.heap.objs.size+1) (o:=.ins C s.heap.objs.size []) (t':=s.toks) (fun b u q=>Heap.get?_push_of_some _ q) (Nat.le_of_eq (Heap.size_push _ _)) ?_
 have ne:s.heap.objs.size≠s.heap.objs.size+1:=Nat.ne_of_lt (Nat.lt_succ_self _)
 refine⟨by rw[zf ne,zd],Nat.zero_le _,ne,e2,fun _=>none,(Heap.Ns1.of_empty e3).at fun o q=>Heap.get?_push_of_some _ q,fun _=>True.intro,fun y hy=>absurd rfl hy⟩
theorem zAn{prog:Program}{w:World}{env:Env}{e:Expr}{f:Str}{pos:Pos}{s:Shared}{Q:Value->Shared->Prop}(hb:attributeBase e f env (eval e env)=eval e env)
  (h:wpAny (model prog w) A (eval e env) (fun o s₁=>wpAny (model prog w) A (getAttr o f true) Q E s₁) E s):wpAny (model prog w) A (eval (.Attribute e f pos) env) Q E s:=
 Attribute_any_ h (by rw[arm_eval_Attribute,hb])
end
inductive JF(K:Fg)(f:Str)(x:V)(H:Hp)(Q:VK):Prop|I:∀a C dx fs v,x=.ref a->H a=some (.ins C dx fs)->Cls K C->zaL K C f->fs.lookup f=some v->Q v H->JF K f x H Q
def tFld(K:Fg)(ta:TE)(f:Str):TE:=fun σ H Q=>ta σ H fun x H1=>JF K f x H1 Q
def sFld(K:Fg)(ta tv:TE)(f:Str):TS:=fun D σ H=>tv σ H fun y H1=>ta σ H1 fun x H2=>E4 fun a C dx fs=>x=.ref a/\H2 a=some (.ins C dx fs)/\Cls K C/\zaL K C f/\fs.length<1000/\
 D.nx σ (upd H2 a (.ins C dx (zK f y fs)))
def InOp(X:Cx)(op:Operator)(rd:V->V->Hp->VK->Prop):Prop:=
 ∀(pins:List (Addr×Obj)) (s:Shared) (σ:St) (H:Hp) (x y:V) (u v:Value) (Q:VK),Inv X pins σ H s->zZ x u->zZ y v->rd x y H Q->wpAny (model X.prog X.w) X.A (inplaceOp op u v) (EP X pins σ Q) X.xe s
def zAo(K:Fg)(ta tv:TE)(rd:V->V->Hp->VK->Prop)(f:Str):TS:=fun D σ H=>ta σ H fun x H1=>E5 fun a C dx fs v=>x=.ref a/\H1 a=some (.ins C dx fs)/\Cls K C/\zaL K C f/\fs.lookup f=some v/\
 tv σ H1 fun y H2=>rd v y H2 fun z H3=>E2 fun dx' fs'=>H3 a=some (.ins C dx' fs')/\fs'.length<1000/\D.nx σ (upd H3 a (.ins C dx' (zK f z fs')))
section
variable {X:Cx}{o e value:Expr}{f:Str}{pos pos' tpos:Pos}{ta tv:TE}
theorem zg(he:PE X e ta)(hb:attributeBase e f X.env (eval e X.env)=eval e X.env):PE X (.Attribute e f pos) (tFld X.K ta f):=by
 intro pins s σ H Q I h
 refine zAn hb (thn (he pins s σ H _ I h) fun u s1 ⟨x,H1,I1,rx,a,C,dx,fs,v,ex,ea,c,n,l,q⟩=>?_)
 subst ex
 obtain rfl:u=Value.ref a:=rx
 exact zp3 I1 ea c n l fun u' s2 I2 ru=>⟨v,H1,I2,ru,q⟩
theorem zaX(ha:PE X o ta)(hv:PE X value tv)(hs:swapsWith value (some (.Attribute o f pos')) pos.line X.env=pure false):PS X (.Assign [.Attribute o f pos'] value pos) (sFld X.K ta tv f):=by
 intro pins s σ H D I h
 refine plainObj_wpAny_Assign_Attribute (thn (hv pins s σ H _ I h) fun u s1 ⟨y,H1,I1,ry,q⟩=>thn (ha pins s1 σ H1 _ I1 q) fun ov s2 ⟨x,H2,I2,rx,a,C,dx,fs,ex,ea,c,n,l,q2⟩=>?_) hs
 subst ex
 obtain rfl:ov=Value.ref a:=rx
 exact zp5 I2 ea c n l ry fun s3 I3=>⟨σ,_,I3,q2⟩
theorem zmY{op:Operator}{rd:V->V->Hp->VK->Prop}(ha:PE X o ta)(hv:PE X value tv)(hop:InOp X op rd):PS X (.AugAssign (.Attribute o f tpos) op value pos) (zAo X.K ta tv rd f):=by
 intro pins s σ H D I h
 refine wpAny_AugAssign_AttributeAny (thn (ha pins s σ H _ I h) fun ov s1 ⟨x,H1,I1,rx,a,C,dx,fs,v,ex,ea,c,n,l,q⟩=>?_)
 subst ex
 obtain rfl:ov=Value.ref a:=rx
 refine zp3 I1 ea c n l fun u s2 I2 ru=>thn (hv pins s2 σ H1 _ I2 q) fun w3 s3 ⟨y,H2,I3,ry,q3⟩=>thn (hop pins s3 σ H2 v y u w3 _ I3 ru ry q3) fun w4 s4 ⟨z,H3,I4,rz,dx',fs',ea',l',q4⟩=>?_
 exact zp5 I4 ea' c n l' rz fun s5 I5=>⟨σ,_,I5,q4⟩
inductive rAdd(x y:V)(H:Hp)(Q:VK):Prop|I:∀i j,x=.int i->y=.int j->Q (.int (i+j)) H->rAdd x y H Q
theorem ztI:InOp X .Add rAdd:=by
 rintro pins s σ H x y u v Q I rx ry ⟨i,j,rfl,rfl,q⟩
 obtain⟨t,rfl⟩:=(show∃t,u=Value.int i t from rx)
 obtain⟨t',rfl⟩:=(show∃t',v=Value.int j t' from ry)
 exact PyProof.Rows.iadd_int ⟨.int (i+j),H,I.tok _,⟨_,rfl⟩,q⟩
end
structure zcj(k:Nat)(A:Around):Prop where
 hd:A.handled=none
 dp:A.depth+3*k+5<recursionLimit
 un:A.units+16*k+200<cLine
theorem zcj.mono{j k:Nat}{A:Around}(r:zcj k A)(h:j<=k):zcj j A:=⟨r.hd,by have:=r.dp;omega,by have:=r.un;omega⟩
theorem zcj.deeper{k:Nat}{A:Around}(r:zcj (k+1) A)(env:Env):zcj k (A.deeper env):=
 ⟨r.hd,by have:=r.dp;show A.depth+1+3*k+5<_;omega,by have:=r.un;show A.units+3+16*k+200<_;omega⟩
theorem zw8{A:Around}{C:Addr}{us:List Value}{kw:List (Str×Value)}:(A.under (.builtin "type.__call__" ⟨.ref C::us,kw⟩)).depth=A.depth+1:=by
 first|rfl|simp[Around.under,Code.weight,Code.isCreation,Code.isGuard,Code.isCaller,Code.frames,Code.isFrame,guardIds]
theorem zw9{A:Around}{C:Addr}{us:List Value}{kw:List (Str×Value)}:(A.under (.builtin "type.__call__" ⟨.ref C::us,kw⟩)).units=A.units+1:=by
 first|rfl|simp[Around.under,Code.cUnits,Code.frames,Code.isFrame]
theorem zcj.make{k:Nat}{A:Around}(r:zcj (k+1) A)(C:Addr)(us:List Value)(kw:List (Str×Value)):zcj k (A.under (.builtin "type.__call__" ⟨.ref C::us,kw⟩)):=
 ⟨r.hd,by have:=r.dp;rw[zw8];omega,by have:=r.un;rw[zw9];omega⟩
theorem zcj.depth{k:Nat}{A:Around}(r:zcj k A):A.depth<recursionLimit:=by have:=r.dp;omega
theorem zcj.units{k:Nat}{A:Around}(r:zcj k A):A.units+64<cLine:=by have:=r.un;omega
def zdf:TA:=fun _ H Q=>Q [] H
def zc0(ta:TE)(tr:TA):TA:=fun σ H Q=>ta σ H fun x H1=>tr σ H1 fun xs H2=>Q (x::xs) H2
section
variable {X:Cx}{e:Expr}{es:List Expr}{te:TE}{t:TA}{pos:Pos}
theorem zc:PA X [] zdf:=fun _ _ _ _ H Q I h=>Calls.spliced_nil ⟨[],H,I,.nil,h⟩
theorem za(ha:PE X e te)(hr:PA X es t)(hs:starEach (e::es) X.env=(false,eval e X.env)::starEach es X.env:=by rfl):PA X (e::es) (zc0 te t):=by
 intro pos pins s σ H Q I h
 rw[hs]
 show wpAny _ _ (spliced ((false,eval e X.env)::backTo pos (starEach es X.env))) _ _ s
 refine Calls.spliced_cons (thn (ha pins s σ H _ I h) fun u s1 ⟨x,H1,I1,r1,q1⟩=>?_)
 exact thn (hr pos pins s1 σ H1 _ I1 q1) fun us s2 ⟨xs,H2,I2,r2,q2⟩=>⟨x::xs,H2,I2,.cons r1 r2,q2⟩
def tTup(t:TA):TE:=fun σ H Q=>t σ H fun xs H1=>xs.length<=sizeLine/\∀p,H1 p=none->Q (.ref p) (upd H1 p (.tup xs))
def tLst(t:TA):TE:=fun σ H Q=>t σ H fun xs H1=>xs.length<=sizeLine/\∀p,H1 p=none->Q (.ref p) (upd H1 p (.lst xs))
theorem zmZ{x1}(h:PA X es t):PE X (.Tuple es x1 pos) (tTup t):=by
 intro pins s σ H Q I hq
 refine wpAny_Tuple_spliced (thn (h pos pins s σ H _ I hq) fun us s1 ⟨xs,H1,I1,r,z,q⟩=>⟨by rw[<-r.length];exact z,?_⟩)
 have hf:H1 s1.heap.objs.size=none:=I1.hok.fresh (nLr _)
 refine⟨.ref s1.heap.objs.size,upd H1 s1.heap.objs.size (.tup xs),I1.laid (t':=s1.toks) (fun b u e=>Heap.get?_push_of_some _ e) (nLr _) ?_,rfl,q _ hf⟩
 exact⟨z,us,r,⟨_,Heap.get?_push_size _ rfl,rfl,_,rfl⟩⟩
theorem zL(h:PA X es t):PE X (.List es pos) (tLst t):=by
 intro pins s σ H Q I hq
 refine wpAny_List_spliced (thn (h pos pins s σ H _ I hq) fun us s1 ⟨xs,H1,I1,r,z,q⟩=>⟨by rw[<-r.length];exact z,?_⟩)
 have hf:H1 s1.heap.objs.size=none:=I1.hok.fresh (nLr _)
 refine⟨.ref s1.heap.objs.size,upd H1 s1.heap.objs.size (.lst xs),I1.laid (t':=s1.toks) (fun b u e=>Heap.get?_push_of_some _ e) (nLr _) ?_,rfl,q _ hf⟩
 exact⟨z,us,0,r,Heap.get?_push_size _ rfl⟩
end
abbrev Sp:=List V->Hp->VK->XK->Prop
abbrev CXT:=List Env->Hp->Shared->XK->Value->Shared->Prop
structure Env0(P:Program)(w:World)(K:Fg)(mg:Str->Option Value)(base:Heap)(A:Around)(outer:List Env)(s:Shared)(H:Hp):Prop where
 frames:A.frames=some outer
 mod:Mod K mg base
 bs :∀b o,base.get? b=some o->s.heap.get? b=some o/\H b=none
 bsz:base.objs.size<=s.heap.objs.size
 funs:s.heap.FunFrames base outer
 frf :∀b∈frs outer,H b=none
 hok:HOk P w H s.heap
 bare:AllBare s.gens
def CE(outer:List Env)(P:Program)(w:World)(H:Hp)(s:Shared)(Q:VK)(u:Value)(s':Shared):Prop:=
 ∃v H',s'.os=s.os/\AllBare s'.gens/\Un (frs outer) [] H H' s.heap s'.heap/\HOk P w H' s'.heap/\zZ v u/\Q v H'
def CR(CX:CXT)(outer:List Env)(P:Program)(w:World)(H:Hp)(s:Shared)(Q:VK)(E:XK)(r:Result)(s':Shared):Prop:=
 match r with
 | .ok (.ret u)=>CE outer P w H s Q u s'
 | .ok _=>False
 | .error e=>CX outer H s E e s'
structure zH(P:Program)(w:World)(K:Fg)(mg:Str->Option Value)(base:Heap)(CX:CXT)(k:Nat)(f:Addr)(fd:FuncData)(ps:List Str)(sp:Sp):Prop where
 len :∀vs H Q E,sp vs H Q E->vs.length=ps.length
 run :∀(A:Around) (outer:List Env) (s:Shared) (H:Hp) (args:Args) (us:List Value) (vs:List V) (Q:VK) (E:XK),zcj k A->Env0 P w K mg base A outer s H->BindsTo s fd args (ps.zip us)->zQ vs us->sp vs H Q E->
  codeAny (model P w) A (.call (.ref f) args) (CR CX outer P w H s Q E) s
theorem zH.mono{P:Program}{w:World}{K:Fg}{mg:Str->Option Value}{base:Heap}{CX:CXT}{j k:Nat}{f:Addr}{fd:FuncData}{ps:List Str}{sp:Sp}(F:zH P w K mg base CX j f fd ps sp)(h:j<=k) :
  zH P w K mg base CX k f fd ps sp:=⟨F.len,fun A outer s H args us vs Q E hr=>F.run A outer s H args us vs Q E (hr.mono h)⟩
theorem zH.up{P:Program}{w:World}{K:Fg}{mg:Str->Option Value}{base:Heap}{CX:CXT}{j:Nat}{f:Addr}{fd:FuncData}{ps:List Str}{sp:Sp}(F:zH P w K mg base CX j f fd ps sp)(k:Nat)(h:j<=k:=by decide):zH P w K mg base CX k f fd ps sp:=F.mono h
theorem zH.imp{P:Program}{w:World}{K:Fg}{mg:Str->Option Value}{base:Heap}{CX:CXT}{k:Nat}{f:Addr}{fd:FuncData}{ps:List Str}{sp sp':Sp}(F:zH P w K mg base CX k f fd ps sp)
  (h :∀vs H Q E,sp' vs H Q E->sp vs H Q E):zH P w K mg base CX k f fd ps sp':=
 ⟨fun vs H Q E q=>F.len vs H Q E (h _ _ _ _ q),fun A outer s H args us vs Q E hr he hb hv hs=>F.run A outer s H args us vs Q E hr he hb hv (h _ _ _ _ hs)⟩
theorem Env0.make{P:Program}{w:World}{K:Fg}{mg:Str->Option Value}{base:Heap}{A:Around}{outer:List Env}{s:Shared}{H:Hp}(e:Env0 P w K mg base A outer s H)(C:Addr)(us:List Value)(kw:List (Str×Value)) :
  Env0 P w K mg base (A.under (.builtin "type.__call__" ⟨.ref C::us,kw⟩)) outer s H:=⟨by first|exact e.frames|(simpa[Around.under,Code.envs,Code.isFrame,pushEnvs]using e.frames),e.mod,e.bs,e.bsz,e.funs,e.frf,e.hok,e.bare⟩
section
variable {X:Cx}{pins:List (Addr×Obj)}{σ:St}{H:Hp}{s s':Shared}
theorem Inv.env0(I:Inv X pins σ H s):Env0 X.prog X.w X.K X.mg X.base X.A X.stack s H:=
 ⟨I.ok.frames,I.ok.mod,I.bs,nLt I.ok.bsz I.sz,I.stack,I.stkFree,I.hok,I.bare⟩
theorem Inv.after{Q:VK}{u:Value}(I:Inv X pins σ H s)(h:CE X.stack X.prog X.w H s Q u s'):EP X pins σ Q u s':=by
 obtain⟨v,H',os,bare,un,hok,r,q⟩:=h
 obtain⟨hh,g,d,t,os'⟩:=s'
 obtain rfl:os'=s.os:=os
 exact⟨v,H',I.call (h':=hh) (g':=g) (d':=d) (t':=t) (ch:=[]) un hok bare (fun b z=>absurd z (by simp)),r,q⟩
end
def tCall(sp:Sp)(dvs:List V)(E:XK)(t:TA):TE:=fun σ H Q=>t σ H fun vs H1=>sp (vs++dvs) H1 Q E
inductive JM(C:Addr)(m:Str)(x:V)(H:Hp)(R:Prop):Prop|I:∀a dx fs,x=.ref a->H a=some (.ins C dx fs)->fs.lookup m=none->R->JM C m x H R
def tMeth(C:Addr)(m:Str)(sp:Sp)(dvs:List V)(E:XK)(ta:TE)(t:TA):TE:=fun σ H Q=>ta σ H fun x H1=>JM C m x H1 (t σ H1 fun vs H2=>sp (x::(vs++dvs)) H2 Q E)
def tMake(C:Addr)(sp:Sp)(dvs:List V)(E:XK)(t:TA):TE:=fun σ H Q=>t σ H fun vs H1=>∀x dx,H1 x=none->H1 dx=none->dx≠x->
 sp (.ref x::(vs++dvs)) (upd (upd H1 dx (.own x)) x (.ins C dx [])) (fun v H2=>v=.non/\Q (.ref x) H2) E
def zE(K:Fg)(fd:FuncData)(ps:List Str)(ds:List Value):Prop:=
 ∀(s:Shared) (us:List Value),K.In s.heap->(us++ds).length=ps.length->BindsTo s fd ⟨us,[]⟩ (ps.zip (us++ds))
theorem zE.all{K:Fg}{fd:FuncData}{ps:List Str}(h :∀us:List Value,us.length=ps.length->bindArgs fd ⟨us,[]⟩=pure (ps.zip us)):zE K fd ps []:=fun s us _ hl=>by
 rw[List.append_nil]at hl⊢
 exact .of_eq (h us hl)
def zhK(CX:CXT)(X:Cx)(E:XK):Prop:=∀(pins:List (Addr×Obj)) (σ:St) (H:Hp) (s:Shared) (e:Value) (s':Shared),Inv X pins σ H s->CX X.stack H s E e s'->X.xe e s'
section
variable {X:Cx}{CX:CXT}{k:Nat}{f C:Addr}{fd:FuncData}{ps:List Str}{sp:Sp}{dvs:List V}{ds:List Value}{E:XK}{x m:Str}{p pos apos:Pos}{e o:Expr}{es:List Expr}{ta:TE}{t:TA}
theorem zp6{pins:List (Addr×Obj)}{σ:St}{H:Hp}{s:Shared}{Q:VK}{us:List Value}{vs:List V}(F:zH X.prog X.w X.K X.mg X.base CX k f fd ps sp)(hr:zcj k X.A)(hb:zE X.K fd ps ds)(hd:zQ dvs ds)(hx:zhK CX X E)
  (I:Inv X pins σ H s) (r:zQ vs us) (h:sp (vs++dvs) H Q E):wpAny (model X.prog X.w) X.A (call (.ref f) us) (EP X pins σ Q) X.xe s:=by
 have r2:zQ (vs++dvs) (us++ds):=r.append hd
 have hl:(us++ds).length=ps.length:=by rw[<-r2.length];exact F.len _ _ _ _ h
 refine wpAny_call (codeAny_mono (F.run X.A X.stack s H ⟨us,[]⟩ (us++ds) (vs++dvs) Q E hr I.env0 (hb s us I.kIn hl) r2 h) fun r s' hq=>?_)
 cases r with
 | error e=>exact hx pins σ H s e s' I hq
 | ok fl=>
  cases fl with
  | ret u=>exact I.after hq
  | next=>exact False.elim hq
  | brk=>exact False.elim hq
  | cont=>exact False.elim hq
theorem zw(F:zH X.prog X.w X.K X.mg X.base CX k f fd ps sp)(hr:zcj k X.A)(hg:Gl X x)(hm:X.mg x=some (.ref f))(hk:PySem.W.keepIn X.K (.ref f)=true)(hb:zE X.K fd ps ds)(hd:zQ dvs ds)(hx:zhK CX X E)
  (ha:PA X (e::es) t) (hdb:(x==("__debug__" : Str))=false:=by decide) (he:starEach (e::es) X.env=(false,eval e X.env)::starEach es X.env:=by rfl) (hpl:(backTo pos (starEach es X.env)).any (·.1)=false:=by rfl) :
  PE X (.Call (.Name x p) (e::es) [] pos) (tCall sp dvs E t):=by
 intro pins s σ H Q I h
 refine wpAny_Call_Name_kw (zn8 I hg hm ?_ hdb)
 refine PySem.W.callWith_K (h₀:=X.base) I.ok.mod.kin hk (thn (ha pos pins s σ H _ I h) fun us s1 ⟨vs,H1,I1,r,q⟩=>⟨I1.kIn,?_⟩) he hpl
 exact zp6 F hr hb hd hx I1 r q
theorem zp{pl:Sem Bool}(he:PE X o ta)(c:Cls X.K C)(hm:zbg X.K C m f)(F:zH X.prog X.w X.K X.mg X.base CX k f fd ps sp)(hr:zcj k X.A)(hb:zE X.K fd ps ds)(hd:zQ dvs ds)(hx:zhK CX X E)(ha:PA X (e::es) t)
  (hst:starEach (e::es) X.env=(false,eval e X.env)::starEach es X.env:=by rfl) (hpl:(backTo pos (starEach es X.env)).any (·.1)=false:=by rfl)
  (ht:eval (.Call (.Attribute o m apos) (e::es) [] pos) X.env=(do
   let ov<-eval o X.env
   standAt apos.atName
   let(f,first)<-holding [ov] (getMethod ov m pl)
   callWith pos f first (backTo pos (starEach (e::es) X.env)) (backToKw pos (keywordEach [] X.env))):=by rfl) :
  PE X (.Call (.Attribute o m apos) (e::es) [] pos) (tMeth C m sp dvs E ta t):=by
 intro pins s σ H Q I h
 refine PySem.W.methodCall_KW (pl:=pl) (thn (he pins s σ H _ I h) fun u s1 ⟨x,H1,I1,rx,a,dx,fs,ex,ea,l,q⟩=>?_) ht
 subst ex
 obtain rfl:u=Value.ref a:=rx
 refine zp4 I1 ea c hm l ?_
 refine PySem.W.callWith_K (first:=[.ref a]) (h₀:=X.base) I.ok.mod.kin hm.kp (thn (ha pos pins s1 σ H1 _ I1 q) fun us s2 ⟨vs,H2,I2,r,q2⟩=>⟨I2.kIn,?_⟩) hst hpl
 exact zp6 (us:=.ref a::us) (vs:=.ref a::vs) F hr hb hd hx I2 (.cons rfl r) q2
theorem zi4{pl:Sem Bool}(he:PE X o ta)(c:Cls X.K C)(hm:zbg X.K C m f)(F:zH X.prog X.w X.K X.mg X.base CX k f fd ps sp)(hr:zcj k X.A)(hb:zE X.K fd ps ds)(hd:zQ dvs ds)(hx:zhK CX X E)
  (ht:eval (.Call (.Attribute o m apos) [] [] pos) X.env=(do
   let ov<-eval o X.env
   standAt apos.atName
   let(f,first)<-holding [ov] (getMethod ov m pl)
   callWith pos f first (backTo pos (starEach [] X.env)) (backToKw pos (keywordEach [] X.env))):=by rfl) :
  PE X (.Call (.Attribute o m apos) [] [] pos) (tMeth C m sp dvs E ta zdf):=by
 intro pins s σ H Q I h
 refine PySem.W.methodCall_KW (pl:=pl) (thn (he pins s σ H _ I h) fun u s1 ⟨x,H1,I1,rx,a,dx,fs,ex,ea,l,q⟩=>?_) ht
 subst ex
 obtain rfl:u=Value.ref a:=rx
 refine zp4 I1 ea c hm l ?_
 exact PySem.W.callWith_K0 (first:=[.ref a]) I1.kIn hm.kp (zp6 (us:=[.ref a]) (vs:=[.ref a]) F hr hb hd hx I1 (.cons rfl .nil) q)
structure Mk(K:Fg)(C f:Addr):Prop where
 makes:PySem.W.makesIn K C=true
 init:PySem.W.findIn K (.ref C) "__init__" = some (some (.ref f))
 fn:PySem.W.isFn K (.ref f)=true
 kp:PySem.W.keepIn K (.ref C)=true
theorem ztJ{pins:List (Addr×Obj)}{σ:St}{H:Hp}{s:Shared}{Q:VK}{us:List Value}{vs:List V}(M:Mk X.K C f)(F:zH X.prog X.w X.K X.mg X.base CX k f fd ps sp)(hr:zcj (k+1) X.A)(hb:zE X.K fd ps ds)(hd:zQ dvs ds)
  (hx:zhK CX X E) (I:Inv X pins σ H s) (r:zQ vs us)
  (h :∀x dx,H x=none->H dx=none->dx≠x->sp (.ref x::(vs++dvs)) (upd (upd H dx (.own x)) x (.ins C dx [])) (fun v H2=>v=.non/\Q (.ref x) H2) E) :
  wpAny (model X.prog X.w) X.A (call (.ref C) us) (EP X pins σ Q) X.xe s:=by
 have hq:=h (s.heap.objs.size+1) s.heap.objs.size (I.hok.fresh (Nat.le_succ _)) (I.hok.fresh (nLr _)) (Nat.ne_of_lt (Nat.lt_succ_self _))
 have I2:=Inv.made (C:=C) I
 have r2:zQ (V.ref (s.heap.objs.size+1)::(vs++dvs)) (Value.ref (s.heap.objs.size+1)::(us++ds)):=.cons rfl (r.append hd)
 have hl:(Value.ref (s.heap.objs.size+1)::us++ds).length=ps.length:=by
  have e:=r2.length
  rw[F.len _ _ _ _ hq]at e
  exact e.symm
 refine wpAny_call (zzi (f:=f) I.kIn M.makes M.init (beq_iff_eq.mp M.fn) (codeAny_mono (F.run _ X.stack _ _ ⟨Value.ref (s.heap.objs.size+1)::us,[]⟩ (Value.ref (s.heap.objs.size+1)::(us++ds)) _ _ E (hr.make C us [])
  (I2.env0.make C us []) (hb _ (Value.ref (s.heap.objs.size+1)::us) I2.kIn hl) r2 hq) fun r s' hq'=>?_))
 cases r with
 | error e=>exact hx pins σ _ _ e s' I2 hq'
 | ok fl=>
  cases fl with
  | ret u=>
   obtain⟨v,H',I3,rv,ev,q3⟩:=I2.after hq'
   subst ev
   exact⟨rv,⟨V.ref (s.heap.objs.size+1),H',I3,rfl,q3⟩⟩
  | next=>exact False.elim hq'
  | brk=>exact False.elim hq'
  | cont=>exact False.elim hq'
theorem zc8(M:Mk X.K C f)(F:zH X.prog X.w X.K X.mg X.base CX k f fd ps sp)(hr:zcj (k+1) X.A)(hg:Gl X x)(hm:X.mg x=some (.ref C))(hb:zE X.K fd ps ds)(hd:zQ dvs ds)(hx:zhK CX X E)
  (ha:PA X (e::es) t) (hdb:(x==("__debug__" : Str))=false:=by decide) (he:starEach (e::es) X.env=(false,eval e X.env)::starEach es X.env:=by rfl) (hpl:(backTo pos (starEach es X.env)).any (·.1)=false:=by rfl) :
  PE X (.Call (.Name x p) (e::es) [] pos) (tMake C sp dvs E t):=by
 intro pins s σ H Q I h
 refine wpAny_Call_Name_kw (zn8 I hg hm ?_ hdb)
 refine PySem.W.callWith_K (h₀:=X.base) I.ok.mod.kin M.kp (thn (ha pos pins s σ H _ I h) fun us s1 ⟨vs,H1,I1,r,q⟩=>⟨I1.kIn,?_⟩) he hpl
 exact ztJ M F hr hb hd hx I1 r q
theorem zzj(M:Mk X.K C f)(F:zH X.prog X.w X.K X.mg X.base CX k f fd ps sp)(hr:zcj (k+1) X.A)(hg:Gl X x)(hm:X.mg x=some (.ref C))(hb:zE X.K fd ps ds)(hd:zQ dvs ds)(hx:zhK CX X E)
  (hdb:(x==("__debug__" : Str))=false:=by decide):PE X (.Call (.Name x p) [] [] pos) (tMake C sp dvs E zdf):=by
 intro pins s σ H Q I h
 refine wpAny_Call_Name_kw (zn8 I hg hm ?_ hdb)
 exact PySem.W.callWith_K0 I.kIn M.kp (ztJ (us:=[]) M F hr hb hd hx I .nil h)
end
def PK(X:Cx)(kws:List Keyword)(t:TA):Prop:=
 ∀(pos:Pos) (pins:List (Addr×Obj)) (s:Shared) (σ:St) (H:Hp) (Q:List V->Hp->Prop),Inv X pins σ H s->t σ H Q->wpAny (model X.prog X.w) X.A (evalAll ((backToKw pos (keywordEach kws X.env)).map (·.2))) (AP X pins σ Q) X.xe s
section
variable {X:Cx}{CX:CXT}{k:Nat}{f C:Addr}{fd:FuncData}{ps ks:List Str}{sp:Sp}{E:XK}{x m:Str}{p pos apos kpos:Pos}{e o:Expr}{es:List Expr}{kws:List Keyword}{te ta:TE}{t tk:TA}{nm:Option Str}
theorem zBx:PK X [] zdf:=fun _ _ _ _ H Q I h=>wpAny_evalAll_nil ⟨[],H,I,.nil,h⟩
theorem zAp(ha:PE X e te)(hr:PK X kws t):PK X (⟨nm,e,kpos⟩::kws) (zc0 te t):=by
 intro pos pins s σ H Q I h
 show wpAny _ _ (evalAll ((do let v<-eval e X.env;standAt pos;pure v)::(backToKw pos (keywordEach kws X.env)).map (·.2))) _ _ s
 refine wpAny_evalAll_cons (wpAny_bind (thn (ha pins s σ H _ I h) fun u s1 ⟨x,H1,I1,r1,q1⟩=>wpAny_bind (wpAny_standAt (wpAny_pure ?_))))
 exact thn (hr pos pins s1 σ H1 _ I1 q1) fun us s2 ⟨xs,H2,I2,r2,q2⟩=>⟨x::xs,H2,I2,.cons r1 r2,q2⟩
variable {g:List Value->List Value->List Value}{gV:List V->List V->List V}
end
structure zx(N P:List Str)(sc:Scope):Prop where
 kind:sc.kind=.function
 co:sc.isCoroutine=false
 gen:sc.isGenerator=false
 nd:N.Nodup
 pre:N.take P.length=P
 par :∀x∈P,sc.names.lookup x=some .local\/sc.names.lookup x=some .cell
 nofree :∀y∈sc.names,y.2≠.free
theorem zr5{kindOf:Str->Option NameKind}{x:Str} :∀{binds:List (Str×Value)} {m:Str->Option Value},(∀v,(x,v)∉binds)->bindL kindOf binds m x=m x
 | [],_,_=>rfl
 | (n,v)::r,m,h=>by
  unfold bindL
  rw[zr5 fun w hw=>h w (lMc _ hw)]
  split
  ·have:x≠n:=by rintro rfl;exact h v lMs
   simp[this]
  ·rfl
theorem zr6{kindOf:Str->Option NameKind}{x:Str} :∀{binds:List (Str×Value)} {m:Str->Option Value},(∀v,(x,v)∉binds)->bindC kindOf binds m x=m x
 | [],_,_=>rfl
 | (n,v)::r,m,h=>by
  unfold bindC
  rw[zr6 fun w hw=>h w (lMc _ hw)]
  split
  ·rfl
  ·have:x≠n:=by rintro rfl;exact h v lMs
   simp[this]
theorem zr7{kindOf:Str->Option NameKind}{x:Str}{v:Value} :∀{P:List Str} {vs:List Value} {i:Nat} {m:Str->Option Value},P.Nodup->P[i]? = some x->vs[i]? = some v->kindOf x=some .local->
  bindL kindOf (P.zip vs) m x=some v
 | [],_,_,_,_,h,_,_=>by simp at h
 | _::_,[],_,_,_,_,h,_=>by simp at h
 | p::P,w::vs,0,m,nd,h1,h2,hk=>by
  simp at h1 h2;subst h1;subst h2
  show bindL kindOf ((p,w)::P.zip vs) m p=_
  unfold bindL
  rw[zr5 fun v hv=>(List.nodup_cons.mp nd).1 (List.of_mem_zip hv).1,if_pos hk]
  simp
 | p::P,w::vs,i+1,m,nd,h1,h2,hk=>by
  show bindL kindOf ((p,w)::P.zip vs) m x=_
  unfold bindL
  exact zr7 (i:=i) (List.nodup_cons.mp nd).2 (by simpa using h1) (by simpa using h2) hk
theorem zr8{kindOf:Str->Option NameKind}{x:Str}{v:Value} :∀{P:List Str} {vs:List Value} {i:Nat} {m:Str->Option Value},P.Nodup->P[i]? = some x->vs[i]? = some v->kindOf x≠some .local->
  bindC kindOf (P.zip vs) m x=some v
 | [],_,_,_,_,h,_,_=>by simp at h
 | _::_,[],_,_,_,_,h,_=>by simp at h
 | p::P,w::vs,0,m,nd,h1,h2,hk=>by
  simp at h1 h2;subst h1;subst h2
  show bindC kindOf ((p,w)::P.zip vs) m p=_
  unfold bindC
  rw[zr6 fun v hv=>(List.nodup_cons.mp nd).1 (List.of_mem_zip hv).1,if_neg hk]
  simp
 | p::P,w::vs,i+1,m,nd,h1,h2,hk=>by
  show bindC kindOf ((p,w)::P.zip vs) m x=_
  unfold bindC
  exact zr8 (i:=i) (List.nodup_cons.mp nd).2 (by simpa using h1) (by simpa using h2) hk
def start(N:List Str)(vs:List V):St:=vs.map some++List.replicate (N.length-vs.length) none
def cxOf(CX:CXT)(P:Program)(w:World)(K:Fg)(mg:Str->Option Value)(base:Heap)(N:List Str)(qual:Str)(scope:Scope)(f:Addr)(cd:Value)(A:Around)(outer:List Env)(s:Shared)(H:Hp)(E:XK):Cx where
 prog:=P
 w:=w
 K:=K
 mg:=mg
 base:=base
 A:=A.deeper (envOfC qual scope s.heap.objs.size f cd)
 N:=N
 s_0:=s
 H_0:=H
 env:=envOfC qual scope s.heap.objs.size f cd
 outer:=outer
 stack:=envOfC qual scope s.heap.objs.size f cd::outer
 ex:=[]
 calm:=true
 fn:=fun _=>true
 pn:=[]
 xe:=fun e s'=>wpAny (model P w) (A.deeper (envOfC qual scope s.heap.objs.size f cd)) (leaving (envOfC qual scope s.heap.objs.size f cd) e) (fun _ s''=>CX outer H s E e s'') (fun e' s''=>CX outer H s E e' s'') s'
theorem ztK{sc:Scope}{n:Nat}{x:Str}(h:sc.names.lookup x=some .cell) :∃c,(cellsFrom n sc.names []).lookup x=some c:=by
 have q:=PySem.W.cellsFrom_some sc.names n [] (.inl h)
 exact Option.isSome_iff_exists.mp q
theorem zyg{CX:CXT}{P:Program}{w:World}{K:Fg}{mg:Str->Option Value}{base:Heap}{N ps:List Str}{qual:Str}{scope:Scope}{f:Addr}{cd:Value}{A:Around}{outer:List Env}{s s1:Shared}{H:Hp}{E:XK}{us:List Value}{vs:List V}
  (S:zx N ps scope) (hd:A.handled=none) (e0:Env0 P w K mg base A outer s H) (hl:vs.length=ps.length) (r:zQ vs us)
  (x:InCallC s s.heap.objs.size (bindL (envOfC qual scope s.heap.objs.size f cd).kindOf (ps.zip us) fun _=>none) (cellsFrom (s.heap.objs.size+1) scope.names []) (bindC (envOfC qual scope s.heap.objs.size f cd).kindOf (ps.zip us) fun _=>none) s1) :
  Inv (cxOf CX P w K mg base N qual scope f cd A outer s H E) [] (start N vs) H s1:=by
 have hpl:ps.length<=N.length:=by have:=congrArg List.length S.pre;rw[List.length_take]at this;omega
 obtain⟨h1,tk,rfl,hk⟩:=x.done
 have noA :∀b:Addr,b∉(cxOf CX P w K mg base N qual scope f cd A outer s H E).ex:=fun b z=>absurd (show b∈([]:List Addr)from z) (by simp)
 refine⟨⟨e0.mod,S.kind,rfl,rfl,nLr _,fun y z c h1 h2=>?_,fun y hy=>?_,fun y c _ h=>?_,fun _=>hd,Around.frames_deeper e0.frames,.inr ⟨rfl,rfl⟩,fun b z=>absurd z (noA b),e0.bs,e0.bsz,fun b _ _=>noA b,fun b z=>absurd z (noA b),e0.funs,e0.frf⟩,
  rfl,e0.bare,Un.kept hk,⟨_,x.toInCall.ns,fun i y v h1 h2 h3=>?_⟩,fun y c h=>⟨_,x.cell y c h⟩,e0.hok.fresh (nLr _),fun y c h=>?_,fun p hp=>absurd (show p∈([]:List (Addr×Obj))from hp) (by simp),e0.hok.kept hk,?_⟩
 ·exact name_of_addr x.apart (PySem.mem_of_lookup h1) (PySem.mem_of_lookup h2)
 ·have hy:scope.names.lookup y=some .cell\/scope.names.lookup y=some .free:=hy
  rcases hy with hy|hy
  ·exact ztK hy
  ·exact absurd rfl (S.nofree _ (PySem.mem_of_lookup hy))
 ·exact Nat.le_of_lt (x.above y c (PySem.mem_of_lookup h))
 ·have hi:i<vs.length:=by
   unfold start at h2
   by_cases hi:i<vs.length
   ·exact hi
   ·rw[List.getElem?_append_right (by simpa using hi)]at h2
    rw[List.getElem?_replicate]at h2
    split at h2<;>cases h2
  have ha:vs[i]? = some v:=by
   unfold start at h2
   rw[List.getElem?_append_left (by simpa using hi),gEm]at h2
   cases e:vs[i]? with
   | none=>rw[e]at h2;cases h2
   | some a=>rw[e]at h2;cases h2;rfl
  obtain⟨u,hu,rv⟩:=r.get ha
  have hp:ps[i]? = some y:=by
   rw[<-S.pre,List.getElem?_take_of_lt (by omega)];exact h1
  have ndP:ps.Nodup:=by rw[<-S.pre];exact S.nd.sublist (List.take_sublist _ _)
  refine⟨u,rv,?_⟩
  rcases S.par y (mge hp)with k|k
  ·exact .inl ⟨k,zr7 ndP hp hu k⟩
  ·obtain⟨c,e⟩:=ztK (n:=s.heap.objs.size+1) k
   refine .inr ⟨.inl k,c,e,?_⟩
   have q:=x.cell y c e
   rw[zr8 ndP hp hu (by show scope.names.lookup y≠_;rw[k];decide)]at q
   exact q
 ·exact e0.hok.fresh (Nat.le_of_lt (x.above y c (PySem.mem_of_lookup h)))
 ·unfold start
  show _=N.length
  rw[lEa,lmm,List.length_replicate]
  omega
theorem zCa{CX:CXT}{P:Program}{w:World}{K:Fg}{mg:Str->Option Value}{base:Heap}{k:Nat}{f:Addr}{name qual:Str}{params:Arguments}{body:List Stmt}{scope:Scope}{dV kV doc pm cdv ct oc:Value}{an od:Option Addr}
  {osl:Array (Option Value)} {N ps:List Str} {sp:Sp} (lk:K.lookup f=some ⟨oc,od,.func (PySem.W.fnOf name qual params body scope dV kV doc pm an cdv ct),osl⟩) (hcd:PySem.W.codeIn K cdv qual=true) (S:zx N ps scope)
  (len :∀vs H Q E,sp vs H Q E->vs.length=ps.length)
  (hbody :∀(A:Around) (outer:List Env) (s:Shared) (H:Hp) (vs:List V) (Q:VK) (E:XK),zcj k (A.deeper (envOfC qual scope s.heap.objs.size f cdv))->sp vs H Q E->
   ∃t,PSs (cxOf CX P w K mg base N qual scope f cdv A outer s H E) body t/\t {nx:=fun _ H'=>Q .non H',rt:=Q} (start N vs) H) :
  zH P w K mg base CX (k+1) f (PySem.W.fnOf name qual params body scope dV kV doc pm an cdv ct) ps sp:=by
 refine⟨len,fun A outer s H args us vs Q E hr e0 hb r hsp=>?_⟩
 have hl:=len _ _ _ _ hsp
 have KX:K.In s.heap:=e0.mod.kin.keeps fun b o e=>(e0.bs b o e).1
 have lim:s.heap.NoLimit:=e0.mod.nolimit.keeps fun b o e=>(e0.bs b o e).1
 have hkind :∀y∈ps.zip us,scope.names.lookup y.1=some .local\/(scope.names.lookup y.1=some .cell/\((cellsFrom (s.heap.objs.size+1) scope.names []).lookup y.1).isSome=true):=fun⟨n,v⟩ hy=>by
  rcases S.par n (List.of_mem_zip hy).1 with q|q
  ·exact .inl q
  ·exact .inr ⟨q,PySem.W.cellsFrom_some _ _ _ (.inl q)⟩
 refine codeAny_call_function hr.depth (KX _ _ lk) rfl S.co S.gen rfl (PySem.W.codeRec_of KX hcd) (hb _ _ _ _ ?_)
 refine wpAny_newFunctionEnv_cells S.kind hkind fun env he s1 x=>?_
 subst he
 refine⟨lim.keeps x.toInCall.keep,codeAny_func ?_⟩
 obtain⟨t,ht,hq⟩:=hbody A outer s H vs Q E (hr.deeper _) hsp
 have I:Inv (cxOf CX P w K mg base N qual scope f cdv A outer s H E) [] (start N vs) H s1:=zyg S hr.hd e0 hl r x
 refine wpAny_mono (ht [] s1 (start N vs) H _ I hq) (fun fl s' hs=>?_) fun e s' hs=>hs
 have fin :∀{σ':St} {H':Hp} {v:V} {u:Value},Inv (cxOf CX P w K mg base N qual scope f cdv A outer s H E) [] σ' H' s'->zZ v u->Q v H'->CE outer P w H s Q u s':=
  fun {σ' H' v u} J rv q=>⟨v,H',J.os,J.bare,J.base,J.hok,rv,q⟩
 cases fl with
 | ret u=>
  obtain⟨v,σ',H',J,rv,q⟩:=hs
  exact fin J rv q
 | next=>
  obtain⟨σ',H',J,q⟩:=hs
  exact fin (v:=V.non) (u:=Value.none) J rfl q
 | brk=>
  obtain⟨_,_,_,q⟩:=hs
  exact False.elim q
 | cont=>
  obtain⟨_,_,_,q⟩:=hs
  exact False.elim q
section
variable {X:Cx}{x:Str}{p pos:Pos}{e:Expr}{es:List Expr}{t:TA}{id T:String}{r:List V->Hp->VK->Prop}
def tCB(r:List V->Hp->VK->Prop)(t:TA):TE:=fun σ H Q=>t σ H fun vs H1=>r vs H1 Q
theorem zaN(hc:zhw X (.builtin id) r)(hg:Gl X x)(hm:X.mg x=none)(hv:bootBuiltins x=some (.builtin id))(ha:PA X (e::es) t)(hn:x≠"__name__":=by decide) (hdb:(x==("__debug__" : Str))=false:=by decide)
  (he:starEach (e::es) X.env=(false,eval e X.env)::starEach es X.env:=by rfl) (hpl:(backTo pos (starEach es X.env)).any (·.1)=false:=by rfl):PE X (.Call (.Name x p) (e::es) [] pos) (tCB r t):=by
 intro pins s σ H Q I h
 refine wpAny_Call_Name_kw (zi2 I hg hm hv ?_ hn hdb)
 exact PyProof.Rows.callWith_builtin1 (thn (ha pos pins s σ H _ I h) fun us s1 ⟨vs,H1,I1,r1,q1⟩=>hc pins s1 σ H1 vs us Q I1 r1 q1) he hpl
theorem zgb(hc:zhw X (.type T) r)(hg:Gl X x)(hm:X.mg x=none)(hv:bootBuiltins x=some (.type T))(ha:PA X (e::es) t)(hn:x≠"__name__":=by decide) (hdb:(x==("__debug__" : Str))=false:=by decide)
  (he:starEach (e::es) X.env=(false,eval e X.env)::starEach es X.env:=by rfl) (hpl:(backTo pos (starEach es X.env)).any (·.1)=false:=by rfl):PE X (.Call (.Name x p) (e::es) [] pos) (tCB r t):=by
 intro pins s σ H Q I h
 refine wpAny_Call_Name_kw (zi2 I hg hm hv ?_ hn hdb)
 exact PyProof.Rows.callWith_type1 (thn (ha pos pins s σ H _ I h) fun us s1 ⟨vs,H1,I1,r1,q1⟩=>hc pins s1 σ H1 vs us Q I1 r1 q1) he hpl
end
end L2
namespace HT
open PySem PyProof.Rows
section
variable {prog:Program}{w:World}{A:Around}{E:Value->Shared->Prop}{s:Shared}
def sIx(n d:Nat):Option Int->Nat
 | none=>d
 | some v=>if v<0 then(v+(n:Int)).toNat else min v.toNat n
theorem zwA(n d k:Nat):sIx n d (some (k:Int))=min k n:=by
 show(if(k:Int)<0 then((k:Int)+(n:Int)).toNat else min (k:Int).toNat n)=min k n
 rw[if_neg (by omega),Int.toNat_natCast]
end
end HT
namespace L2
open PySem PySem.Spec PyProof.Rows
abbrev TO:=St->Hp->(Option Int->Hp->Prop)->Prop
def PO(X:Cx)(e:Option Expr)(t:TO):Prop:=
 ∀(pins:List (Addr×Obj)) (s:Shared) (σ:St) (H:Hp) (Q:Option Int->Hp->Prop),Inv X pins σ H s->t σ H Q->
  wpAny (model X.prog X.w) X.A (evalPart e X.env) (fun u s'=>∃o H',Inv X pins σ H' s'/\IsPart u o/\Q o H') X.xe s
def tPart(t:TE):TO:=fun σ H Q=>t σ H fun x H1=>∃i,x=.int i/\Q (some i) H1
section
variable {X:Cx}{e:Expr}{te:TE}{lo hi:Option Expr}{tl th:TO}{pos p2:Pos}
theorem zwB(h:PE X e te):PO X (some e) (tPart te):=by
 intro pins s σ H Q I hw
 rw[evalPart_some]
 refine thn (h pins s σ H _ I hw) fun u s1 ⟨x,H1,I1,r1,q1⟩=>?_
 obtain⟨i,rfl,q⟩:=q1
 obtain⟨t,rfl⟩:=r1
 exact⟨some i,H1,I1,.int i t,q⟩
def SlR(X:Cx)(r:V->Option Int->Option Int->Hp->VK->Prop):Prop:=
 ∀(pins:List (Addr×Obj)) (s:Shared) (σ:St) (H:Hp) (x:V) (v vl vu:Value) (lo hi:Option Int) (sl:Addr) (Q:VK),Inv X pins σ H s->zZ x v->s.heap.IsSliceOf sl vl vu .none->IsPart vl lo->IsPart vu hi->r x lo hi H Q->
  ∃T id,typeLookup (.type T) "__getitem__" = pure (some (.builtin id))/\s.TypeIs v T/\wpAny (model X.prog X.w) X.A (getItem v (.ref sl)) (EP X pins σ Q) X.xe s
def tSl(r:V->Option Int->Option Int->Hp->VK->Prop)(te:TE)(tl th:TO):TE:=fun σ H Q=>te σ H fun x H1=>tl σ H1 fun l H2=>th σ H2 fun u H3=>r x l u H3 Q
theorem zzk{r:V->Option Int->Option Int->Hp->VK->Prop}(hr:SlR X r)(he:PE X e te)(hl:PO X lo tl)(hu:PO X hi th):PE X (.Subscript e (.Slice lo hi none p2) pos) (tSl r te tl th):=by
 intro pins s σ H Q I h
 refine Subscript_ (thn (he pins s σ H _ I h) fun v s1 ⟨x,H1,I1,r1,q1⟩=>?_)
 refine wpAny_Slice (thn (hl pins s1 σ H1 _ I1 q1) fun vl s2 ⟨l,H2,I2,pl,q2⟩=>thn (hu pins s2 σ H2 _ I2 q2) fun vu s3 ⟨u,H3,I3,pu,q3⟩=>?_)
 rw[evalPart_none]
 refine wpAny_pure ?_
 have I4:Inv X pins σ H3 {s3 with heap:=s3.heap.push {cls:=.type "slice",data:=.fields #[vl,vu,.none]}}:=I3.kept (t':=s3.toks) fun b ob q=>Heap.get?_push_of_some _ q
 obtain⟨T,id,hT,ht,hg⟩:=hr pins {s3 with heap:=s3.heap.push {cls:=.type "slice",data:=.fields #[vl,vu,.none]}} σ H3 x v vl vu l u s3.heap.objs.size Q I4 r1 (Heap.IsSliceOf.new ..) pl pu q3
 show wpAny (model X.prog X.w) X.A (subscriptTail e (.Slice lo hi none p2) v (.ref s3.heap.objs.size)) (EP X pins σ Q) X.xe {s3 with heap:=s3.heap.push {cls:=.type "slice",data:=.fields #[vl,vu,.none]}}
 exact tail_any (ops:=[.ref s3.heap.objs.size,v]) ht hT hg (by with_unfolding_all rfl)
def cutV(xs:List V)(lo hi:Option Int):List V:=(xs.drop (HT.sIx xs.length 0 lo)).take (HT.sIx xs.length xs.length hi-HT.sIx xs.length 0 lo)
theorem zvr(xs:List V)(lo hi:Option Int):(cutV xs lo hi).length<=xs.length:=by
 unfold cutV
 rw[List.length_take,List.length_drop]
 omega
end
def ixN(n:Nat)(i:Int):Option Nat:=if 0<=i then(if i<n then some i.toNat else none)else if -(n:Int)<=i then some (i+n).toNat else none
def atI{α:Type}(xs:List α)(i:Int):Option α:=(ixN xs.length i).bind fun j=>xs[j]?
theorem zwC{n:Nat}{i:Int}{j:Nat}(h:ixN n i=some j):seqIndex? i n=some j/\j<n/\-(n:Int)<=i/\i<n:=by
 unfold ixN at h
 by_cases h0:0<=i
 ·rw[if_pos h0]at h
  by_cases h1:i<n
  ·rw[if_pos h1]at h
   have e:i.toNat=j:=oSi h
   exact⟨by rw[seqIndex_of h0 h1,e],by omega,by omega,h1⟩
  ·rw[if_neg h1]at h;cases h
 ·rw[if_neg h0]at h
  by_cases h1:-(n:Int)<=i
  ·rw[if_pos h1]at h
   have e:(i+n).toNat=j:=oSi h
   exact⟨by rw[seqIndex_neg (by omega) h1,e],by omega,h1,by omega⟩
  ·rw[if_neg h1]at h;cases h
theorem zwD{α:Type}{xs:List α}{i:Int}{v:α}(h:atI xs i=some v) :∃j,seqIndex? i xs.length=some j/\xs[j]? = some v/\j<xs.length/\-(xs.length:Int)<=i/\i<xs.length:=by
 unfold atI at h
 cases e:ixN xs.length i with
 | none=>rw[e]at h;cases h
 | some j=>
  rw[e]at h
  obtain⟨h1,h2,h3,h4⟩:=zwC e
  exact⟨j,h1,h,h2,h3,h4⟩
theorem zb8{α:Type}{xs:List α}{j:Nat}{v:α}(h:xs[j]? = some v):atI xs (j:Int)=some v:=by
 have hj:j<xs.length:=(List.getElem?_eq_some_iff.mp h).1
 have e:ixN xs.length (j:Int)=some j:=by
  unfold ixN
  rw[if_pos (by omega),if_pos (by omega)];simp
 unfold atI;rw[e];exact h
def zAq(b:Expr):Prop:=∀o i,subscripted b false o i=operate [o,i] (getItem o i)
def IxR(X:Cx)(r:R2):Prop:=
 ∀(value slice:Expr) (pins:List (Addr×Obj)) (s:Shared) (σ:St) (H:Hp) (x y:V) (v u:Value) (Q:VK),Inv X pins σ H s->zZ x v->zZ y u->r x y H Q->
  subscripted slice false v u=operate [v,u] (getItem v u)->wpAny (model X.prog X.w) X.A (subscriptTail value slice v u) (EP X pins σ Q) X.xe s
def MtR(X:Cx)(id:String)(r:V->List V->Hp->VK->Prop):Prop:=
 ∀(pins:List (Addr×Obj)) (s:Shared) (σ:St) (H:Hp) (x:V) (xs:List V) (v:Value) (us:List Value) (Q:VK),Inv X pins σ H s->zZ x v->zQ xs us->r x xs H Q->
  wpAny (model X.prog X.w) X.A (call (.builtin id) (v::us)) (EP X pins σ Q) X.xe s
section
variable {X:Cx}{a b:Expr}{ta tb:TE}{pos:Pos}
theorem zu{r:R2}(hr:IxR X r)(ha:PE X a ta)(hb:PE X b tb)(hs:zAq b):PE X (.Subscript a b pos) (tOp r ta tb):=by
 intro pins s σ H Q I h
 exact Subscript_ (binT ha hb I h fun v u s2 x y H2 I2 rx ry q=>hr a b pins s2 σ H2 x y v u Q I2 rx ry q (hs _ _))
inductive rIxL(K:Fg)(x y:V)(H:Hp)(Q:VK):Prop|I:∀p xs i v,x=.ref p->y=.int i->SqL K H p xs->atI xs i=some v->Q v H->rIxL K x y H Q
inductive rIxT(K:Fg)(x y:V)(H:Hp)(Q:VK):Prop|I:∀p xs i v,x=.ref p->y=.int i->SqT K H p xs->atI xs i=some v->Q v H->rIxT K x y H Q
theorem zA:IxR X (rIxL X.K):=by
 intro value slice pins s σ H x y v u Q I rx ry h hs
 obtain⟨p,xs,i,z,rfl,rfl,hq,he,q⟩:=h
 cases rx
 obtain⟨t,rfl⟩:=ry
 obtain⟨its,r,pl,hz⟩:=I.list hq
 obtain⟨j,h1,h2,h3,h4,h5⟩:=zwD he
 obtain⟨w,ew,rw'⟩:=r.get h2
 have hl:=r.length
 have hn:=zkY
 have fin:EP X pins σ Q w s:=⟨z,H,I,rw',q⟩
 by_cases h0:0<=i
 ·have hj:i.toNat=j:=by
   rw[seqIndex_of h0 h5]at h1
   exact oSi h1
  exact item_listR pl.isList h0 (by omega) (by rw[hj];simpa using ew) fin hs
 ·have hj:(i+(its.toArray.size:Int)).toNat=j:=by
   rw[seqIndex_neg (by omega) h4]at h1
   rw[List.size_toArray,<-hl]
   exact oSi h1
  exact subscriptTail_builtinR (x:=w) pl.isList.typeIs slot_list_getitem.lookup
   (wpAny_getItem_list_neg (Q:=fun r s'=>r=w/\EP X pins σ Q r s') pl.isList (by omega) (by rw[List.size_toArray]<;>omega) (by omega) (by rw[hj];simpa using ew) ⟨rfl,fin⟩) hs
theorem z6:IxR X (rIxT X.K):=by
 intro value slice pins s σ H x y v u Q I rx ry h hs
 obtain⟨p,xs,i,z,rfl,rfl,hq,he,q⟩:=h
 cases rx
 obtain⟨t,rfl⟩:=ry
 obtain⟨its,r,pl,hz⟩:=I.tuple hq
 obtain⟨j,h1,h2,h3,h4,h5⟩:=zwD he
 obtain⟨w,ew,rw'⟩:=r.get h2
 have hl:=r.length
 have hn:=zkY
 have fin:EP X pins σ Q w s:=⟨z,H,I,rw',q⟩
 exact subscriptTail_builtinR (x:=w) pl.typeIs slot_tuple_getitem.lookup
  (getItem_tuple (j:=j) (Q:=fun r s'=>r=w/\EP X pins σ Q r s') pl (by omega) (by omega) (by rw[List.size_toArray,<-hl];exact h1) (by simpa using ew) ⟨rfl,fin⟩) hs
theorem zxa(its:List Value)(n j:Nat)(u:Value):Obj.mapSeq (·.setIfInBounds j u) {cls:=.type "list",data:=.seq its.toArray n} = {cls:=.type "list",data:=.seq (its.set j u).toArray n}:=by
 simp[Obj.mapSeq]
theorem Inv.lst{pins:List (Addr×Obj)}{σ:St}{H:Hp}{s:Shared}{p:Addr}{xs:List V}(I:Inv X pins σ H s)(h:H p=some (.lst xs)) :
  ∃(its:List Value) (n:Nat),zQ xs its/\s.heap.get? p=some {cls:=.type "list",data:=.seq its.toArray n}/\xs.length<=sizeLine:=by
 obtain⟨z,its,n,r,e⟩:=I.hok p _ h
 exact⟨its,n,r,e,z⟩
theorem Inv.lstUpd{pins:List (Addr×Obj)}{σ:St}{H:Hp}{s:Shared}{p:Addr}{xs ys:List V}{its its':List Value}{n n':Nat}{f:Obj->Obj}(I:Inv X pins σ H s)(h:H p=some (.lst xs))
  (ho:s.heap.get? p=some {cls:=.type "list",data:=.seq its.toArray n}) (hf:f {cls:=.type "list",data:=.seq its.toArray n} = {cls:=.type "list",data:=.seq its'.toArray n'}) (r:zQ ys its') (hz:ys.length<=sizeLine) (t:Nat) :
  Inv X pins σ (upd H p (.lst ys)) {s with heap:=s.heap.update p f,toks:=t}:=by
 have e:(s.heap.update p f).get? p=some {cls:=.type "list",data:=.seq its'.toArray n'}:=by
  rw[Heap.get?_update_self f ho (by rw[hf]<;>rfl),hf]
 refine I.write (x:=p) (e:=p) (by rw[h];trivial) (.inl rfl) (fun b u hb q=>(Heap.get?_update_other _ _ (Ne.symm hb)).trans q) ⟨_,e⟩ ?_
 exact⟨hz,its',n',r,e⟩
inductive rSetL(o i v:V)(H:Hp)(Q:(Hp->Prop)):Prop|I:∀p xs k j,o=.ref p->i=.int k->H p=some (.lst xs)->ixN xs.length k=some j->Q (upd H p (.lst (xs.set j v)))->rSetL o i v H Q
theorem zeV:PSet X rSetL:=by
 intro pins s σ H o i v ov iv u Q I ro ri rv h
 obtain⟨p,xs,k,j,rfl,rfl,hp,hj,q⟩:=h
 cases ro
 obtain⟨t,rfl⟩:=ri
 obtain⟨its,n,r,ho,hz⟩:=I.lst hp
 obtain⟨h1,h2,h3,h4⟩:=zwC hj
 have hl:=r.length
 have hn:=zkY
 have I':Inv X pins σ (upd H p (.lst (xs.set j v))) {s with heap:=s.heap.update p (Obj.mapSeq (·.setIfInBounds j u))}:=
  I.lstUpd hp ho (zxa its n j u) (r.set rv j) (by rw[List.length_set];exact hz) s.toks
 by_cases h0:0<=k
 ·have hk:k.toNat=j:=by
   rw[seqIndex_of h0 h4]at h1
   exact oSi h1
  exact PySem.W.ki_setAt ho h0 (by omega) (by rw[List.size_toArray,<-hl];exact h4) (by rw[hk];exact⟨_,I',q⟩)
 ·have hk:(k+(its.toArray.size:Int)).toNat=j:=by
   rw[seqIndex_neg (by omega) h3]at h1
   rw[List.size_toArray,<-hl]
   exact oSi h1
  exact PySem.W.ki_setBack ho (by omega) (by rw[List.size_toArray,<-hl];exact h3) (by omega) (by rw[hk];exact⟨_,I',q⟩)
theorem ztL(lo hi:Option Int)(n:Nat):(sliceBounds lo hi none n).1=((HT.sIx n 0 lo:Nat):Int)/\(sliceBounds lo hi none n).2.1=((HT.sIx n n hi:Nat):Int)/\(sliceBounds lo hi none n).2.2=1:=by
 refine⟨?_,?_,rfl⟩
 ·cases lo with
  | none=>simp[sliceBounds,HT.sIx]
  | some i=>
   simp only[sliceBounds,HT.sIx,Option.getD_none,show(1:Int)>0 by decide,if_true]
   by_cases h:i<0
   ·simp only[h,if_true]<;>omega
   ·simp only[h,if_false]<;>omega
 ·cases hi with
  | none=>simp[sliceBounds,HT.sIx]
  | some i=>
   simp only[sliceBounds,HT.sIx,Option.getD_none,show(1:Int)>0 by decide,if_true]
   by_cases h:i<0
   ·simp only[h,if_true]<;>omega
   ·simp only[h,if_false]<;>omega
theorem zsR(its:List Value)(lo hi:Option Int):slicePick its.toArray lo hi none=((its.drop (HT.sIx its.length 0 lo)).take (HT.sIx its.length its.length hi-HT.sIx its.length 0 lo)).toArray:=by
 obtain⟨h1,h2,h3⟩:=ztL lo hi its.toArray.size
 unfold slicePick
 rw[h1,h2,h3]
 simp only[sliceRange_one,pick_run,List.size_toArray]<;>rfl
inductive rSlL(K:Fg)(x:V)(lo hi:Option Int)(H:Hp)(Q:VK):Prop|I:∀a xs,x=.ref a->SqL K H a xs->(∀p,H p=none->Q (.ref p) (upd H p (.lst (cutV xs lo hi))))->rSlL K x lo hi H Q
theorem zAr:SlR X (rSlL X.K):=by
 intro pins s σ H x v vl vu lo hi sl Q I rx hs pl pu h
 obtain⟨a,xs,rfl,hx,q⟩:=h
 cases rx
 obtain⟨its,r,ht,hz⟩:=I.list hx
 have hlen:=r.length
 refine⟨"list",_,slot_list_getitem.lookup,ht.isList.typeIs,?_⟩
 refine wpAny_getItem_list_slice ht.isList hs pl pu .none (by simp) ?_ (by rw[List.size_toArray]<;>omega)
 rw[zsR,<-hlen]
 refine⟨.ref s.heap.objs.size,_,I.laid (t':=s.toks) (o:=.lst (cutV xs lo hi)) (fun b ob q=>Heap.get?_push_of_some _ q) (nLr _) ?_,rfl,q _ (I.hok.fresh (nLr _))⟩
 exact⟨nLt (zvr xs lo hi) hz,_,0,(r.drop (HT.sIx xs.length 0 lo)).take (HT.sIx xs.length xs.length hi-HT.sIx xs.length 0 lo),Heap.get?_push_size _ rfl⟩
def flatV:V->Bool
 | .non=>true
 | .bl _=>true
 | .int _=>true
 | .str _=>true
 | _=>false
def eqV:V->V->Bool
 | .non,.non=>true
 | .bl a,.bl b=>a==b
 | .bl a,.int b=>(if a then 1 else 0)==b
 | .int a,.bl b=>a==(if b then 1 else 0)
 | .int a,.int b=>a==b
 | .str a,.str b=>a==b
 | _,_=>false
theorem zBy{A:Around}{s:Shared}{y x:V}{u v:Value}(ry:zZ y u)(rx:zZ x v)(fy:flatV y=true)(fx:flatV x=true):SeqAt.EqAt A s u v (eqV y x):=by
 cases y with
 | non=>
  cases ry
  cases x with
  | non=>cases rx;exact SeqAt.EqAt.same _
  | bl b=>cases rx;exact SeqAt.EqAt.none_bool b
  | int b=>obtain⟨t,rfl⟩:=rx;exact SeqAt.EqAt.none_int b t
  | str b=>obtain⟨t,rfl⟩:=rx;exact SeqAt.EqAt.none_str b t
  | _=>exact absurd (show false=true from fx) bFt
 | bl a=>
  cases ry
  cases x with
  | non=>cases rx;exact SeqAt.EqAt.bool_none a
  | bl b=>cases rx;exact SeqAt.EqAt.bool_bool a b
  | int b=>obtain⟨t,rfl⟩:=rx;exact SeqAt.EqAt.bool_int a b t
  | str b=>obtain⟨t,rfl⟩:=rx;exact SeqAt.EqAt.bool_str a b t
  | _=>exact absurd (show false=true from fx) bFt
 | int a=>
  obtain⟨t',rfl⟩:=ry
  cases x with
  | non=>cases rx;exact SeqAt.EqAt.int_none a t'
  | bl b=>cases rx;exact SeqAt.EqAt.int_bool a t' b
  | int b=>obtain⟨t,rfl⟩:=rx;exact SeqAt.EqAt.int_int a t' b t
  | str b=>obtain⟨t,rfl⟩:=rx;exact SeqAt.EqAt.int_str a t' b t
  | _=>exact absurd (show false=true from fx) bFt
 | str a=>
  obtain⟨t',rfl⟩:=ry
  cases x with
  | non=>cases rx;exact SeqAt.EqAt.str_none a t'
  | bl b=>cases rx;exact SeqAt.EqAt.str_bool a t' b
  | int b=>obtain⟨t,rfl⟩:=rx;exact SeqAt.EqAt.str_int a t' b t
  | str b=>obtain⟨t,rfl⟩:=rx;exact SeqAt.EqAt.str_str a t' b t
  | _=>exact absurd (show false=true from fx) bFt
 | _=>exact absurd (show false=true from fy) bFt
def eqU(x:V)(u:Value):Bool:=match u with
 | .none=>eqV .non x
 | .bool b=>eqV (.bl b) x
 | .int i _=>eqV (.int i) x
 | .str z _=>eqV (.str z) x
 | _=>false
theorem zyh{x y:V}{u:Value}(r:zZ y u)(f:flatV y=true):eqU x u=eqV y x:=by
 cases y with
 | non=>cases r;rfl
 | bl b=>cases r;rfl
 | int i=>obtain⟨t,rfl⟩:=r;rfl
 | str z=>obtain⟨t,rfl⟩:=r;rfl
 | _=>exact absurd (show false=true from f) bFt
theorem zq5{x:V} :∀{xs:List V} {us:List Value},zQ xs us->xs.all flatV=true->us.any (eqU x)=xs.any fun y=>eqV y x
 | _,_,.nil,_=>rfl
 | y::xs,u::us,.cons r t,f=>by
  rw[List.all_cons,bAt]at f
  rw[List.any_cons,List.any_cons,zyh r f.1,zq5 t f.2]
theorem zpp{A:Around}{s:Shared}{x:V}{v:Value}(rx:zZ x v)(fx:flatV x=true) :∀{xs:List V} {us:List Value},zQ xs us->xs.all flatV=true->∀u∈us,SeqAt.EqAt A s u v (eqU x u)
 | _,_,.nil,_=>fun u hu=>by cases hu
 | y::xs,u::us,.cons r t,f=>fun u' hu=>by
  rw[List.all_cons,bAt]at f
  rcases List.mem_cons.mp hu with rfl|hu
  ·rw[zyh r f.1];exact zBy r rx f.1 fx
  ·exact zpp rx fx t f.2 u' hu
def inV(x:V)(xs:List V):Bool:=xs.any fun y=>eqV y x
inductive rIn(K:Fg)(neg:Bool)(x y:V)(H:Hp)(Q:VK):Prop|I:∀p xs,y=.ref p->(SqL K H p xs\/SqT K H p xs)->flatV x=true->xs.all flatV=true->Q (.bl (if neg then !inV x xs else inV x xs)) H->rIn K neg x y H Q
theorem zyi:OpR X (compareOp .In) (rIn X.K false):=by
 intro pins s σ H x y v u Q I rx ry h
 obtain⟨p,xs,rfl,hq,fx,fs,q⟩:=h
 cases ry
 rcases hq with hq|hq
 ·obtain⟨its,r,pl,hz⟩:=I.list hq
  refine SeqAt.in_listAt (eqU x) pl.isList (fun w hw=>zpp rx fx r fs w (by simpa using hw)) ⟨.bl _,H,I,rfl,?_⟩
  rw[show its.toArray.any (eqU x)=its.any (eqU x) by simp,zq5 r fs]
  exact q
 ·obtain⟨its,r,pl,hz⟩:=I.tuple hq
  refine SeqAt.in_tupleAt (eqU x) pl (fun w hw=>zpp rx fx r fs w (by simpa using hw)) ⟨.bl _,H,I,rfl,?_⟩
  rw[show its.toArray.any (eqU x)=its.any (eqU x) by simp,zq5 r fs]
  exact q
theorem zaC:zhw X (.builtin "len") (fun xs H Q=>∃p ys,xs=[.ref p]/\(SqL X.K H p ys\/SqT X.K H p ys)/\Q (.int ys.length) H):=by
 intro pins s σ H xs us Q I r h
 obtain⟨p,ys,rfl,hq,q⟩:=h
 obtain⟨u,rfl,rx⟩:=vals1 r
 cases rx
 have hn:=zkY
 rcases hq with hq|hq
 ·obtain⟨its,r',pl,hz⟩:=I.list hq
  have hlen:=r'.length
  exact Calls.call_len_list pl.isList (by simp only[List.size_toArray]<;>omega) ⟨.int ys.length,H,I.tok _,⟨s.toks+1,by rw[List.size_toArray,hlen]⟩,q⟩
 ·obtain⟨its,r',pl,hz⟩:=I.tuple hq
  have hlen:=r'.length
  exact len_tuple pl (by simp only[List.size_toArray]<;>omega) ⟨.int ys.length,H,I.tok _,⟨s.toks+1,by rw[List.size_toArray,hlen]⟩,q⟩
theorem zeW:zhw X (.type "list") (fun xs H Q=>∃p ys,xs=[.ref p]/\(SqL X.K H p ys\/SqT X.K H p ys)/\∀l,H l=none->Q (.ref l) (upd H l (.lst ys))):=by
 intro pins s σ H xs us Q I r h
 obtain⟨p,ys,rfl,hq,q⟩:=h
 obtain⟨u,rfl,rx⟩:=vals1 r
 cases rx
 have fin :∀(its:List Value),zQ ys its->ys.length<=sizeLine->∀(h':Heap) (c':Nat),(∀b o',s.heap.get? b=some o'->h'.get? b=some o')->
   h'.get? s.heap.objs.size=some {cls:=.type "list",dict:=none,data:=.seq its.toArray c',slots:=#[]}->EP X pins σ Q (.ref s.heap.objs.size) {s with heap:=h'}:=fun its r' hz h' c' kp e=>
  ⟨.ref s.heap.objs.size,_,I.laid (t':=s.toks) kp (nLr _) (show zbr X.prog X.w _ h' _ (.lst ys)from⟨hz,its,c',r',e⟩),rfl,q _ (I.hok.fresh (nLr _))⟩
 rcases hq with hq|hq
 ·obtain⟨its,r',pl,hz⟩:=I.list hq
  have hlen:=r'.length
  obtain⟨o,ho,hc,n,hd⟩:=pl.isList
  exact call_list_seq p (.inl rfl) ho hc hd (fun h' c' kp e=>fin its r' hz h' c' kp e) (by simp only[List.size_toArray]<;>omega)
 ·obtain⟨its,r',pl,hz⟩:=I.tuple hq
  have hlen:=r'.length
  obtain⟨o,ho,hc,n,hd⟩:=pl
  exact call_list_seq p (.inr rfl) ho hc hd (fun h' c' kp e=>fin its r' hz h' c' kp e) (by simp only[List.size_toArray]<;>omega)
def tyV(K:Fg)(T:String)(x:V)(H:Hp):Prop:=match x with
 | .str _=>T = "str"
 | .int _=>T = "int"
 | .ref p=>(T = "list"/\∃xs,SqL K H p xs)\/(T = "tuple"/\∃o,K.lookup p=some o/\o.cls=.type "tuple"/\o.dict=none)\/
   (T = "dict"/\((∃kvs,H p=some (.dK kvs))\/∃kvs,H p=some (.dT kvs)))\/(T = "set"/\∃S n,H p=some (.set S n))
 | _=>False
theorem zyj{pins:List (Addr×Obj)}{σ:St}{H:Hp}{s:Shared}{T:String}{x:V}{v:Value}(I:Inv X pins σ H s)(r:zZ x v)(ty:tyV X.K T x H) :
  s.TypeIs v T/\∀a,v=.ref a->∃ob,s.heap.get? a=some ob/\ob.dict=none:=by
 cases x with
 | str z=>
  obtain⟨t,rfl⟩:=r
  cases (show T = "str" from ty)
  exact⟨typeIs_str s z t,fun _ e=>nomatch e⟩
 | int i=>
  obtain⟨t,rfl⟩:=r
  cases (show T = "int" from ty)
  exact⟨typeIs_int s i t,fun _ e=>nomatch e⟩
 | ref p=>
  cases r
  rcases ty with⟨rfl,xs,hq⟩|⟨rfl,o,hk,hc,hd⟩|⟨rfl,hk⟩|⟨rfl,S,n,hk⟩
  ·obtain⟨its,_,pl,_⟩:=I.list hq
   refine⟨pl.isList.typeIs,fun a e=>?_⟩
   cases e
   obtain⟨o,n,e,c,hd,_⟩:=pl
   exact⟨o,e,hd⟩
  ·refine⟨⟨o,I.kIn p o hk,hc⟩,fun a e=>?_⟩
   cases e
   exact⟨o,I.kIn _ o hk,hd⟩
  ·have z :∃o,s.heap.get? p=some o/\o.ExactDict:=by
    rcases hk with⟨kvs,hk⟩|⟨kvs,hk⟩
    ·obtain⟨_,_,_,_,o,_,_,e,ex,_⟩:=I.hok p _ hk
     exact⟨o,e,ex⟩
    ·obtain⟨_,_,_,_,o,_,_,e,ex,_⟩:=I.hok p _ hk
     exact⟨o,e,ex⟩
   obtain⟨o,e,ex⟩:=z
   refine⟨⟨o,e,ex.1⟩,fun a e2=>?_⟩
   cases e2
   exact⟨o,e,ex.2.1⟩
  ·obtain⟨o,_,_,_,e,ex,_⟩:=I.hok p _ hk
   refine⟨⟨o,e,ex.1⟩,fun a e2=>?_⟩
   cases e2
   exact⟨o,e,ex.2.1⟩
 | _=>exact False.elim ty
def tBM0(K:Fg)(T:String)(r:V->List V->Hp->VK->Prop)(to:TE):TE:=fun σ H Q=>to σ H fun x H1=>tyV K T x H1/\r x [] H1 Q
def tBM(K:Fg)(T:String)(r:V->List V->Hp->VK->Prop)(to:TE)(t:TA):TE:=fun σ H Q=>to σ H fun x H1=>tyV K T x H1/\t σ H1 fun xs H2=>r x xs H2 Q
variable {o e:Expr}{es:List Expr}{to:TE}{t:TA}{name:Str}{apos cpos:Pos}{T id:String}{r:V->List V->Hp->VK->Prop}
theorem zyk(pa:PlainAttrs T)(slot:Slot T name id)(hty:typeOf (.builtin id)=pure (.type "method_descriptor")) (hm:MtR X id r) (ho:PE X o to)
  (hbase:attributeBase o name X.env (eval o X.env)=eval o X.env:=by rfl) (hline:(apos.endLine==cpos.line)=true:=by rfl):PE X (.Call (.Attribute o name apos) [] [] cpos) (tBM0 X.K T r to):=by
 intro pins s σ H Q I h
 refine wpAny_Call_method0_late hbase hline (thn (ho pins s σ H _ I h) fun v s1 ⟨x,H1,I1,r1,ty,q1⟩=>?_)
 obtain⟨h1,h2⟩:=zyj I1 r1 ty
 exact⟨T,id,pa,slot,hty,h1,h2,Calls.callWith_builtin rfl (PySem.evalArgs_none (hm pins s1 σ H1 x [] v [] Q I1 r1 .nil q1))⟩
theorem zeh(pa:PlainAttrs T)(slot:Slot T name id)(hty:typeOf (.builtin id)=pure (.type "method_descriptor")) (hm:MtR X id r) (ho:PE X o to) (ha:PA X (e::es) t)
  (hbase:attributeBase o name X.env (eval o X.env)=eval o X.env:=by rfl)
  (hfew:((backTo cpos (starEach (e::es) X.env)).all (fun x=>!x.1)&&(backToKw cpos (keywordEach [] X.env)).all (fun x=>x.1.isSome)
   && decide ((e::es).length+([]:List Keyword).length+(if([]:List Keyword).isEmpty then 0 else 1)<30))=true:=by rfl)
  (hline:(apos.endLine==cpos.line)=true:=by rfl) (hs:starEach (e::es) X.env=(false,eval e X.env)::starEach es X.env:=by rfl) (hplain:(backTo cpos (starEach es X.env)).any (·.1)=false:=by rfl) :
  PE X (.Call (.Attribute o name apos) (e::es) [] cpos) (tBM X.K T r to t):=by
 intro pins s σ H Q I h
 refine wpAny_Call_method_late hbase hfew hline rfl (thn (ho pins s σ H _ I h) fun v s1 ⟨x,H1,I1,r1,ty,q1⟩=>?_)
 obtain⟨h1,h2⟩:=zyj I1 r1 ty
 refine⟨T,id,pa,slot,hty,h1,h2,?_⟩
 have hA:=ha cpos pins s1 σ H1 _ I1 q1
 rw[hs]at hA⊢
 refine Calls.callWith_builtin (by show(false || (backTo cpos (starEach es X.env)).any (·.1))=false;rw[hplain]<;>rfl) (Calls.evalArgs_plain ?_)
 exact thn hA fun us s2 ⟨vs,H2,I2,r2,q2⟩=>hm pins s2 σ H2 x vs v us Q I2 r1 r2 q2
end
def MtM(X:Cx)(id:String)(r:V->List V->Hp->VK->Prop):Prop:=
 ∀(pins:List (Addr×Obj)) (s:Shared) (σ:St) (H:Hp) (x:V) (xs:List V) (v:Value) (us:List Value) (Q:VK),Inv X pins σ H s->zZ x v->zQ xs us->r x xs H Q->
  wpAny (model X.prog X.w) X.A (call (.builtin id) (v::us)) (EP X pins σ Q) X.xe s
theorem zQ.one :∀{x:V} {us:List Value},zQ [x] us->∃u,us=[u]/\zZ x u
 | _,_,.cons r .nil=>⟨_,rfl,r⟩
theorem zQ.zero :∀{us:List Value},zQ [] us->us=[]
 | _,.nil=>rfl
theorem zQ.rep{xs:List V}{us:List Value}(h:zQ xs us) :∀k:Nat,zQ (List.replicate k xs).flatten (List.replicate k us).flatten
 | 0=>.nil
 | k+1=>by
  rw[List.replicate_succ,List.replicate_succ,List.flatten_cons,List.flatten_cons]
  exact zQ.append h (zQ.rep h k)
theorem zr9(its:List Value) :∀(k:Nat) (acc:List Value),
  List.foldl (fun x1 x2=>x1++x2) acc.toArray (List.replicate k its.toArray)=(acc++(List.replicate k its).flatten).toArray
 | 0,acc=>by simp
 | k+1,acc=>by
  have e:acc.toArray++its.toArray=(acc++its).toArray:=by simp
  have e2:(acc++its)++(List.replicate k its).flatten=acc++(List.replicate (k+1) its).flatten:=by
   rw[List.replicate_succ,List.flatten_cons,lAa]
  rw[<-e2,<-zr9 its k (acc++its),<-e,List.replicate_succ,List.foldl_cons]
section
variable {X:Cx}{pins:List (Addr×Obj)}{σ:St}{H:Hp}{s:Shared}{l b:Addr}{xs ys zs:List V}
theorem Inv.lset{its its':List Value}{n:Nat}{f:Array Value->Array Value}{t':Nat}(I:Inv X pins σ H s)(hH:H l=some (.lst xs))
  (e:s.heap.get? l=some {cls:=.type "list",data:=.seq its.toArray n}) (hf:f its.toArray=its'.toArray) (hv:zQ ys its') (hz:ys.length<=sizeLine) :
  Inv X pins σ (upd H l (.lst ys)) {s with heap:=s.heap.update l (Obj.mapSeq f),toks:=t'}:=by
 have q:=PySem.IsL.update e f
 rw[hf]at q
 refine I.write (x:=l) (e:=l) (by rw[hH];exact trivial) (.inl rfl) (fun b' u hb hu=>(Heap.get?_update_other s.heap (Obj.mapSeq f) (Ne.symm hb)).trans hu) ⟨_,q⟩ ?_
 exact⟨hz,its',_,hv,q⟩
theorem Inv.lnew{its:List Value}{t':Nat}(I:Inv X pins σ H s)(hv:zQ ys its)(hz:ys.length<=sizeLine) :
  Inv X pins σ (upd H s.heap.objs.size (.lst ys)) {s with heap:=s.heap.push {cls:=.type "list",data:=.seq its.toArray},toks:=t'}:=
 I.laid (fun _ _ q=>Heap.get?_push_of_some _ q) (nLr _) ⟨hz,its,0,hv,Heap.get?_push_size _ rfl⟩
theorem Inv.fresh(I:Inv X pins σ H s):H s.heap.objs.size=none:=I.hok.fresh (nLr _)
theorem Inv.lstM(I:Inv X pins σ H s)(hH:H l=some (.lst xs)):xs.length<=sizeLine/\∃(its:List Value) (n:Nat),zQ xs its/\xs.length=its.length/\s.heap.get? l=some {cls:=.type "list",data:=.seq its.toArray n}:=by
 obtain⟨z,its,n,r,e⟩:=I.hok l _ hH
 exact⟨z,its,n,r,r.length,e⟩
theorem zpq{n:Nat}(h:n<=sizeLine):Builtin.List.listTooLong n=false:=by
 unfold Builtin.List.listTooLong
 exact decide_eq_false (by omega)
end
section
variable {X:Cx}
inductive zAs(x:V)(vs:List V)(H:Hp)(Q:VK):Prop|I:∀l xs y,x=.ref l->vs=[y]->H l=some (.lst xs)->xs.length<sizeLine->Q .non (upd H l (.lst (xs++[y])))->zAs x vs H Q
theorem zdt:MtM X "list.append" zAs:=by
 intro pins s σ H x vs v us Q I rx rv h
 obtain⟨l,xs,y,rfl,rfl,hH,hz,q⟩:=h
 cases rx
 obtain⟨u,rfl,ru⟩:=rv.one
 obtain⟨z,its,n,r,hl,e⟩:=I.lstM hH
 refine call_meets F.slot_list_append ⟨_,e,rfl⟩ F.entry_list_append (F.args_list_append_2 _ _) (PySem.list_append l its.toArray n u (by rw[List.size_toArray];omega)) ⟨e,?_⟩
 refine⟨.non,_,I.lset (its':=its++[u]) hH e (by simp) (r.append (.cons ru .nil)) ?_,rfl,q⟩
 rw[lEa,List.length_singleton]
 omega
inductive zAt(x:V)(vs:List V)(H:Hp)(Q:VK):Prop|I:∀l b xs zs,x=.ref l->vs=[.ref b]->H l=some (.lst xs)->H b=some (.lst zs)->xs.length+zs.length<=sizeLine->Q .non (upd H l (.lst (xs++zs)))->zAt x vs H Q
theorem zyl:MtM X "list.extend" zAt:=by
 intro pins s σ H x vs v us Q I rx rv h
 obtain⟨l,b,xs,zs,rfl,rfl,hH,hB,hz,q⟩:=h
 cases rx
 obtain⟨u,rfl,ru⟩:=rv.one
 cases ru
 obtain⟨z,its,n,r,hl,e⟩:=I.lstM hH
 obtain⟨z2,its2,n2,r2,hl2,e2⟩:=I.lstM hB
 have hsz:its.toArray.size+its2.toArray.size<=sizeLine:=by rw[List.size_toArray,List.size_toArray];omega
 have hlong:¬(!its.toArray.isEmpty&&Builtin.List.listTooLong (its.toArray.size+its2.toArray.size))=true:=by
  rw[zpq hsz,Bool.and_false]
  exact bFt
 refine call_meets F.slot_list_extend ⟨_,e,rfl⟩ F.entry_list_extend (F.args_list_extend_2 _ _)
  (AutoSeq1.list_extend_list_list_0 l its.toArray n b its2.toArray n2 hlong (by rw[List.size_toArray];omega) (by omega)) ⟨e,e2,?_⟩
 refine⟨.non,_,I.lset (its':=its++its2) hH e (by simp) (r.append r2) ?_,rfl,q⟩
 rw[lEa]
 omega
inductive rCat(x y:V)(H:Hp)(Q:VK):Prop|I:∀l b xs zs,x=.ref l->y=.ref b->H l=some (.lst xs)->H b=some (.lst zs)->xs.length+zs.length<=sizeLine->(∀p,H p=none->Q (.ref p) (upd H p (.lst (xs++zs))))->rCat x y H Q
theorem ztM:OpR X (binaryOp .Add) rCat:=by
 intro pins s σ H x y v u Q I rx ry h
 obtain⟨l,b,xs,zs,rfl,rfl,hH,hB,hz,q⟩:=h
 cases rx
 cases ry
 obtain⟨z,its,n,r,hl,e⟩:=I.lstM hH
 obtain⟨z2,its2,n2,r2,hl2,e2⟩:=I.lstM hB
 refine PySem.P.add_list e e2 ?_ (by rw[List.size_toArray,List.size_toArray];omega)
 have ea:its.toArray++its2.toArray=(its++its2).toArray:=by simp
 rw[ea]
 exact⟨.ref _,_,I.lnew (t':=s.toks) (r.append r2) (by rw[lEa];omega),rfl,q _ I.fresh⟩
inductive rRep(x y:V)(H:Hp)(Q:VK):Prop|I:∀l k xs,x=.ref l->y=.int k->H l=some (.lst xs)->-(2 ^ 63)<=k->k<2 ^ 63->xs.length*k.toNat<=sizeLine->(∀p,H p=none->Q (.ref p) (upd H p (.lst (List.replicate k.toNat xs).flatten)))->rRep x y H Q
theorem zAu{α:Type}(xs:List α)(k:Nat):(List.replicate k xs).flatten.length=k*xs.length:=by
 induction k with
 | zero=>simp
 | succ k ih=>rw[List.replicate_succ,List.flatten_cons,lEa,ih,Nat.succ_mul,Nat.add_comm]
theorem ztN:OpR X (binaryOp .Mult) rRep:=by
 intro pins s σ H x y v u Q I rx ry h
 obtain⟨l,k,xs,rfl,rfl,hH,h1,h2,hz,q⟩:=h
 cases rx
 obtain⟨t,rfl⟩:=ry
 obtain⟨z,its,n,r,hl,e⟩:=I.lstM hH
 have hlen:its.toArray.size*k.toNat<=sizeLine:=by rw[List.size_toArray,<-hl];exact hz
 have hcap:¬its.toArray.size*k.toNat>(2 ^ 63-1)/8:=by
  have:(sizeLine:Nat)<=(2 ^ 63-1)/8:=by decide
  omega
 have hfit:¬(!Builtin.List.listFitsIndex k)=true:=by
  rw[fitsIndex_both h1 h2]
  exact bFt
 have hlong:¬Builtin.List.listTooLong (its.toArray.size*k.toNat)=true:=by
  rw[zpq hlen]
  exact bFt
 have hnew:List.foldl (fun x1 x2=>x1++x2) #[] (List.replicate (if its.toArray.isEmpty=true then 0 else k.toNat) its.toArray)=(List.replicate k.toNat its).flatten.toArray:=by
  have f0 :∀m:Nat,List.foldl (fun x1 x2=>x1++x2) #[] (List.replicate m its.toArray)=(List.replicate m its).flatten.toArray:=fun m=>by
   have:=zr9 its m []
   rw[List.nil_append]at this
   exact this
  rw[f0]
  cases its with
  | nil=>simp
  | cons a r'=>rw[if_neg (by simp)]
 refine wpAny_binaryOp_repeat_ref (T:="list") (U:="int") (by decide) ⟨_,e,rfl⟩ (fun s'=>typeIs_int s' k t) noFill_list_mul F.fills_int_mul F.slot_int_rmul repeat_list F.slot_int_index.lookup
  (call_meets F.slot_int_rmul (typeIs_int s k t) F.entry_int_rmul (F.args_int_rmul_2 _ _) (int___rmul___int_list k t l its.toArray n)
   ⟨e,rfl,⟨_,e,rfl⟩,call_meets F.slot_list_mul ⟨_,e,rfl⟩ F.entry_list_mul (F.args_list_mul_2 _ _) (AutoListH.list___mul___list_int_3 l its.toArray n k t hfit hcap hlong) ⟨e,?_⟩⟩)
 rw[hnew]
 exact⟨.ref _,_,I.lnew (t':=s.toks) (r.rep k.toNat) (by rw[zAu,Nat.mul_comm];exact hz),rfl,q _ I.fresh⟩
end
theorem zQ.ints :∀{ns:List Int} {us:List Value},zQ (ns.map V.int) us->IntsAre us ns
 | [],us,h=>by
  rw[List.map_nil]at h
  cases h
  exact IntsAre.nil
 | n::ns,us,h=>by
  rw[List.map_cons]at h
  cases h with
  | cons r t=>
   obtain⟨k,rfl⟩:=r
   exact IntsAre.cons n k (zQ.ints t)
theorem zQ.bls :∀{bs:List Bool} {us:List Value},zQ (bs.map V.bl) us->us=bs.map Value.bool
 | [],us,h=>by
  rw[List.map_nil]at h
  cases h
  rfl
 | b::bs,us,h=>by
  rw[List.map_cons]at h
  cases h with
  | cons r t=>
   cases r
   rw[zQ.bls t,List.map_cons]
theorem zQ.ref1{a:Addr}{us:List Value}(r:zQ [V.ref a] us):us=[Value.ref a]:=by
 cases r with
 | cons r t=>
  cases t
  cases r
  rfl
section
variable {prog:Program}{w:World}{A:Around}{E:Value->Shared->Prop}{s:Shared}{l:Addr}{its:List Value}{ns:List Int}{Q:Value->Shared->Prop}
theorem zAv(hh:A.handled=none)(hl:s.heap.IsList l its.toArray)(hi:IntsAre its ns)
  (h :∀h' tk t',(∀b o,s.heap.get? b=some o->h'.get? b=some o)->Q (.int ns.sum t') {s with heap:=h',toks:=tk}):wpAny (model prog w) A (call (.builtin "sum") [.ref l]) Q E s:=by
 obtain⟨xs,e⟩:=hi.allInts.items
 have hn:numsOf (intItems xs).toList=ns:=by rw[<-e];exact hi.numsOf
 rw[nums_intItems]at hn
 rw[e]at hl
 refine PySem.sum_intListG hh hl fun h' tk t' hk=>?_
 have:=h h' tk t' hk
 rw[preSum_eq,tOl (by simp),hn];exact this
end
section
variable {X:Cx}
inductive rSum(K:Fg)(vs:List V)(H:Hp)(Q:VK):Prop|I:∀(a:Addr) (ns:List Int),vs=[V.ref a]->SqL K H a (ns.map V.int)->Q (.int ns.sum) H->rSum K vs H Q
theorem zBz(hc:X.calm=true):zhw X (.builtin "sum") (rSum X.K):=by
 intro pins s σ H vs us Q I r h
 obtain⟨a,ns,rfl,hs,q⟩:=h
 obtain⟨its,rv,hl,_⟩:=I.list hs
 rw[zQ.ref1 r]
 exact zAv (I.ok.hd hc) hl.isList rv.ints fun h' tk t' hk=>⟨.int _,H,I.kept hk,⟨_,rfl⟩,q⟩
end
theorem ztO{prog:Program}{w:World}{A:Around}{E:Value->Shared->Prop}{s:Shared}{l:Addr}{items:Array Value}{Q:Value->Shared->Prop}(hl:s.heap.IsList l items)
  (h :∀s₂:Shared,s₂ = {s with heap:=s.heap.push {cls:=.type "list_iterator",data:=.fields #[.ref l,.int 0 0]}}->
   (s₂.heap.IsListIter s.heap.objs.size l 0/\s₂.heap.IsList l items)->l≠s.heap.objs.size->Q (.ref s.heap.objs.size) s₂):wpAny (model prog w) A (pyIter (.ref l)) Q E s:=by
 have hlt:l<s.heap.objs.size:=by obtain⟨_,e,_⟩:=hl;exact Heap.lt_size e
 exact wpAny_pyIter_list hl (h _ rfl ⟨⟨_,Heap.get?_push_size _ rfl,rfl,rfl⟩,hl.push _⟩ (Nat.ne_of_lt hlt))
theorem zoO{prog:Program}{w:World}{A:Around}{bs:List Bool}{its:List Value}(e:its=bs.map Value.bool) :
  TruthOf prog w A (fun i v=>its.toArray[i]? = some v) (fun i=>bs.getD i false):=fun i v s Q E hv hq=>by
 have hv':its[i]? = some v:=by simpa using hv
 rw[e,gEm]at hv'
 obtain⟨b,hb,rfl⟩:=Option.map_eq_some_iff.mp hv'
 have hg:bs.getD i false=b:=by rw[gDm,hb]<;>rfl
 have hq':Q (bs.getD i false) s:=hq
 rw[hg]at hq'
 exact wpAny_truthy_bool hq'
theorem zsa :∀bs:List Bool,(List.range bs.length).any (fun i=>bs.getD i false)=bs.any id
 | []=>rfl
 | b::bs=>by
  rw[List.length_cons,List.range_succ_eq_map,List.any_cons,List.any_map,List.any_cons,<-zsa bs]
  all_goals rfl
theorem zsb :∀bs:List Bool,(List.range bs.length).all (fun i=>bs.getD i false)=bs.all id
 | []=>rfl
 | b::bs=>by
  rw[List.length_cons,List.range_succ_eq_map,List.all_cons,List.all_map,List.all_cons,<-zsb bs]
  all_goals rfl
section
variable {X:Cx}
inductive rAny(K:Fg)(vs:List V)(H:Hp)(Q:VK):Prop|I:∀(a:Addr) (bs:List Bool),vs=[V.ref a]->SqL K H a (bs.map V.bl)->Q (.bl (bs.any id)) H->rAny K vs H Q
inductive rAll(K:Fg)(vs:List V)(H:Hp)(Q:VK):Prop|I:∀(a:Addr) (bs:List Bool),vs=[V.ref a]->SqL K H a (bs.map V.bl)->Q (.bl (bs.all id)) H->rAll K vs H Q
theorem zBA(hc:X.calm=true):zhw X (.builtin "any") (rAny X.K):=by
 intro pins s σ H vs us Q I r h
 obtain⟨a,bs,rfl,hs,q⟩:=h
 obtain⟨its,rv,hl,_⟩:=I.list hs
 rw[zQ.ref1 r]
 have hb:=rv.bls
 refine call_any_walk (ztO hl.isList fun s₂ e2 st hne=>?_)
 subst e2
 refine⟨_,_,_,_,_,_,_,rfl,Walks.list (A:=X.A.in1) (I.ok.hd hc) _ a hne its.toArray,st,zoO hb,fun h' tk hk=>?_⟩
 refine⟨.bl _,H,I.kept fun b o eo=>hk b o (fun hmem=>?_) (Heap.get?_push_of_some _ eo),?_,q⟩
 ·rcases List.mem_cons.mp hmem with e1|hmem
  ·exact absurd (e1▸Heap.lt_size eo) (Nat.lt_irrefl _)
  ·cases hmem
 ·show Value.bool _=Value.bool _
  rw[<-zsa,hb,List.size_toArray,lmm]
theorem zym(hc:X.calm=true):zhw X (.builtin "all") (rAll X.K):=by
 intro pins s σ H vs us Q I r h
 obtain⟨a,bs,rfl,hs,q⟩:=h
 obtain⟨its,rv,hl,_⟩:=I.list hs
 rw[zQ.ref1 r]
 have hb:=rv.bls
 refine call_all_walk (ztO hl.isList fun s₂ e2 st hne=>?_)
 subst e2
 refine⟨_,_,_,_,_,_,_,rfl,Walks.list (A:=X.A.in1) (I.ok.hd hc) _ a hne its.toArray,st,zoO hb,fun h' tk hk=>?_⟩
 refine⟨.bl _,H,I.kept fun b o eo=>hk b o (fun hmem=>?_) (Heap.get?_push_of_some _ eo),?_,q⟩
 ·rcases List.mem_cons.mp hmem with e1|hmem
  ·exact absurd (e1▸Heap.lt_size eo) (Nat.lt_irrefl _)
  ·cases hmem
 ·show Value.bool _=Value.bool _
  rw[<-zsb,hb,List.size_toArray,lmm]
end
abbrev CellAt(h:Heap)(c:Addr)(v:Option Value):Prop:=h.IsCell c v
def relS(scope sc:Scope):Scope:=
 {scope with names:=scope.names.map fun(n,k)=>if(k==.free&&sc.kind==.function&&sc.names.lookup n==some .cell)then(n,.cell)else(n,k)}
def zbw(cells:List (Str×Addr)):List (Str×NameKind)->List (Str×Addr)->List (Str×Addr)
 | [],acc=>acc
 | (n,k)::r,acc=>if k==.free then zbw cells r ((n,(cells.lookup n).getD 0)::acc)else zbw cells r acc
theorem zm0(env:Env)(f:Str×NameKind->List (Str×Addr)->Sem (ForInStep (List (Str×Addr))))
  (hf :∀n k c,f (n,k) c=if k==.free then(do let a<-cellOf env n;pure (.yield ((n,a)::c)))else pure (.yield c)) :
  ∀(names:List (Str×NameKind)) (acc:List (Str×Addr)),(∀y∈names,y.2=.free->∃c,env.cells.lookup y.1=some c)->forIn names acc f=pure (zbw env.cells names acc)
 | [],acc,_=>by rw[List.forIn_nil];rfl
 | (n,k)::r,acc,h=>by
  rw[List.forIn_cons,hf]
  have ih:=fun acc=>zm0 env f hf r acc fun y hy=>h y (lMc _ hy)
  unfold zbw
  by_cases hk:(k==NameKind.free)=true
  ·rw[if_pos hk,if_pos hk]
   obtain⟨c,hc⟩:=h (n,k) lMs (by simpa using hk)
   have e:cellOf env n=pure c:=by unfold cellOf;rw[hc]
   rw[e]
   have e2:(env.cells.lookup n).getD 0=c:=by rw[hc];rfl
   rw[e2]
   exact ih _
  ·rw[if_neg hk,if_neg hk]
   exact ih _
theorem zxb{scope:Scope}{env:Env}(h :∀y∈scope.names,y.2=.free->∃c,env.cells.lookup y.1=some c):closureFor scope env=pure (zbw env.cells scope.names []):=by
 simp only[closureFor]
 rw[zm0 env _ (fun n k c=>rfl) scope.names [] h]
 rfl
theorem zlJ{α:Type} :∀{l:List (Str×α)} {n:Str} {c:α},(n,c)∈l->∃c',l.lookup n=some c'
 | (k,v)::r,n,c,h=>by
  rw[List.lookup_cons]
  cases hb:n==k with
  | true=>exact⟨_,rfl⟩
  | false=>
   rcases List.mem_cons.mp h with e|h
   ·cases e;simp at hb
   ·exact zlJ h
theorem zhx{cells:List (Str×Addr)} :∀{names:List (Str×NameKind)} {acc:List (Str×Addr)} {n:Str} {c:Addr},(n,c)∈zbw cells names acc->(n,c)∈acc\/((n,.free)∈names/\c=(cells.lookup n).getD 0)
 | [],_,_,_,h=>.inl h
 | (m,k)::r,acc,n,c,h=>by
  unfold zbw at h
  split at h
  ·rename_i hk
   have hk:k=.free:=by simpa using hk
   rcases zhx h with h|⟨h1,h2⟩
   ·rcases List.mem_cons.mp h with e|h
    ·cases e;exact .inr ⟨hk▸lMs,rfl⟩
    ·exact .inl h
   ·exact .inr ⟨lMc _ h1,h2⟩
  ·rcases zhx h with h|⟨h1,h2⟩
   ·exact .inl h
   ·exact .inr ⟨lMc _ h1,h2⟩
theorem zkk{cells:List (Str×Addr)} :∀{names:List (Str×NameKind)} {acc:List (Str×Addr)} {p:Str×Addr},p∈acc->p∈zbw cells names acc
 | [],_,_,h=>h
 | (m,k)::r,acc,p,h=>by
  unfold zbw
  split
  ·exact zkk (lMc _ h)
  ·exact zkk h
theorem zkl{cells:List (Str×Addr)} :∀{names:List (Str×NameKind)} {acc:List (Str×Addr)} {n:Str},(n,.free)∈names->(n,(cells.lookup n).getD 0)∈zbw cells names acc
 | (m,k)::r,acc,n,h=>by
  unfold zbw
  rcases List.mem_cons.mp h with e|h
  ·cases e
   exact zkk lMs
  ·split
   ·exact zkl h
   ·exact zkl h
theorem zhL :∀{names:List (Str×NameKind)} {h:Heap} {acc:List (Str×Addr)} {x:Str} {c:Addr},(x,c)∈cellsFrom h.objs.size names acc->
  (x,c)∈acc\/((x,.cell)∈names/\h.objs.size<=c/\CellAt (pushCells h names) c none)
 | [],_,_,_,_,h=>.inl h
 | (n,k)::r,h,acc,x,c,hm=>by
  unfold cellsFrom at hm
  unfold pushCells
  split at hm
  ·rename_i hk
   rw[if_pos hk]
   have hk:k=.cell:=by simpa using hk
   rw[<-Heap.size_push h {cls:=.type "cell",data:=.cell none}]at hm
   rcases zhL hm with hm|⟨h1,h2,h3⟩
   ·rcases List.mem_cons.mp hm with e|hm
    ·cases e
     exact .inr ⟨hk▸lMs,nLr _,_,pushCells_keeps r _ _ _ (Heap.get?_push_size _ rfl),rfl⟩
    ·exact .inl hm
   ·rw[Heap.size_push]at h2
    exact .inr ⟨lMc _ h1,Nat.le_of_succ_le h2,h3⟩
  ·rename_i hk
   rw[if_neg hk]
   rcases zhL hm with hm|⟨h1,h2,h3⟩
   ·exact .inl hm
   ·exact .inr ⟨lMc _ h1,h2,h3⟩
theorem zj1 :∀{names:List (Str×NameKind)} {n:Nat} {acc:List (Str×Addr)} {p:Str×Addr},p∈acc->p∈cellsFrom n names acc
 | [],_,_,_,h=>h
 | (m,k)::r,n,acc,p,h=>by
  unfold cellsFrom
  split
  ·exact zj1 (lMc _ h)
  ·exact zj1 h
theorem zm1 :∀{names:List (Str×NameKind)} {n:Nat} {acc:List (Str×Addr)} {x:Str},(x,.cell)∈names->∃c,(x,c)∈cellsFrom n names acc
 | (m,k)::r,n,acc,x,h=>by
  unfold cellsFrom
  rcases List.mem_cons.mp h with e|h
  ·cases e
   exact⟨n,zj1 lMs⟩
  ·split
   ·exact zm1 h
   ·exact zm1 h
theorem zm2 :∀{names:List (Str×NameKind)} {h:Heap} {acc:List (Str×Addr)} {x y:Str} {c:Addr},(∀p∈acc,p.2<h.objs.size)->(∀x y c,(x,c)∈acc->(y,c)∈acc->x=y)->
  (x,c)∈cellsFrom h.objs.size names acc->(y,c)∈cellsFrom h.objs.size names acc->x=y
 | [],_,_,_,_,_,_,hi,h1,h2=>hi _ _ _ h1 h2
 | (n,k)::r,h,acc,x,y,c,hl,hi,h1,h2=>by
  unfold cellsFrom at h1 h2
  split at h1
  ·rename_i hk
   rw[if_pos hk]at h2
   rw[<-Heap.size_push h {cls:=.type "cell",data:=.cell none}]at h1 h2
   refine zm2 (h:=h.push _) (fun p hp=>?_) (fun x y c a b=>?_) h1 h2
   ·rw[Heap.size_push]
    rcases List.mem_cons.mp hp with rfl|hp
    ·exact Nat.lt_succ_self _
    ·exact Nat.lt_succ_of_lt (hl p hp)
   ·rcases List.mem_cons.mp a with e|a<;>rcases List.mem_cons.mp b with e'|b
    ·cases e;cases e';rfl
    ·cases e;exact absurd (hl _ b) (Nat.lt_irrefl _)
    ·cases e';exact absurd (hl _ a) (Nat.lt_irrefl _)
    ·exact hi _ _ _ a b
  ·rename_i hk
   rw[if_neg hk]at h2
   exact zm2 hl hi h1 h2
theorem zvs{M:Model}{A:Around}{E:Value->Shared->Prop}{s:Shared}{scope:Scope}{globals:Addr}{closure:List (Str×Addr)}{qual:Str}{func:Option Addr}{code:Value}{around:Env}{builtins:Addr}{Q:Env->Shared->Prop}
  (h:Q (newEnv scope s.heap.objs.size globals (cellsFrom (s.heap.objs.size+1) scope.names closure) qual func code (some around) builtins)
   {s with heap:=pushCells (s.heap.push {cls:=.type "dict",data:=.dict #[]}) scope.names}) :
  wpAny M A (newFunctionEnv scope globals closure [] qual func code (some around) builtins) Q E s:=by
 simp only[newFunctionEnv,Option.isSome_some,if_true]
 refine wpAny_bind (wpAny_alloc ?_)
 refine wpAny_bind (wpAny_layCells _ (fun n k c=>rfl) scope.names closure _ _ ?_)
 rw[show({s with heap:=s.heap.push {cls:=.type "dict",data:=.dict #[]}}:Shared).heap.objs.size=s.heap.objs.size+1 from Heap.size_push ..]
 rw[List.forIn_nil]
 exact wpAny_bind (wpAny_pure (wpAny_pure h))
theorem zkm{sc:Scope} :∀{names:List (Str×NameKind)} {x:Str} {k:NameKind},
  (names.map fun(n,k)=>if(k==NameKind.free&&sc.kind==.function&&sc.names.lookup n==some .cell)then(n,NameKind.cell)else(n,k)).lookup x=some k->
  ∃k',names.lookup x=some k'/\(k=k'\/(k'=.free/\k=.cell))
 | [],_,_,h=>by simp at h
 | (n,k₀)::r,x,k,h=>by
  have ih:=@zkm sc r x k
  have h':List.lookup x ((if(k₀ == NameKind.free&&sc.kind==.function&&sc.names.lookup n==some .cell)=true then(n,NameKind.cell)else(n,k₀))::(r.map _))=some k:=h
  cases hx:x==n with
  | true=>
   simp only[List.lookup_cons,hx]
   by_cases hc:(k₀ == NameKind.free&&sc.kind==.function&&sc.names.lookup n==some .cell)=true
   ·rw[if_pos hc]at h'
    simp only[List.lookup_cons,hx]at h'
    cases h'
    simp only[bAt,beq_iff_eq]at hc
    exact⟨k₀,rfl,.inr ⟨hc.1.1,rfl⟩⟩
   ·rw[if_neg hc]at h'
    simp only[List.lookup_cons,hx]at h'
    cases h'
    exact⟨_,rfl,.inl rfl⟩
  | false=>
   simp only[List.lookup_cons,hx]
   by_cases hc:(k₀ == NameKind.free&&sc.kind==.function&&sc.names.lookup n==some .cell)=true
   ·rw[if_pos hc]at h'
    simp only[List.lookup_cons,hx]at h'
    exact ih h'
   ·rw[if_neg hc]at h'
    simp only[List.lookup_cons,hx]at h'
    exact ih h'
structure BlkOk(N:List Str)(sc scope:Scope)(own:List (Str×Nat)):Prop where
 kind:scope.kind=.function
 uniq :∀y∈scope.names,scope.names.lookup y.1=some y.2
 ix :∀p∈own,N[p.2]? = some p.1
 free :∀y∈scope.names,y.2=.free->sc.names.lookup y.1=some .cell\/sc.names.lookup y.1=some .free
 own :∀y∈scope.names,y.2=.local\/y.2=.cell->y.1∈own.map (·.1)\/y.1∉N
def wipe(σ:St):List Nat->St
 | []=>σ
 | v::vs=>(wipe σ vs).set v none
theorem zkn(σ:St) :∀vs:List Nat,(wipe σ vs).length = σ.length
 | []=>rfl
 | v::vs=>by unfold wipe;rw[List.length_set,zkn σ vs]
theorem zm3{σ:St}{i:Nat}{x:V} :∀{vs:List Nat},(wipe σ vs)[i]? = some (some x)->σ[i]? = some (some x)/\i∉vs
 | [],h=>⟨h,by simp⟩
 | v::vs,h=>by
  unfold wipe at h
  by_cases hi:v=i
  ·subst hi
   by_cases hv:v<(wipe σ vs).length
   ·rw[List.getElem?_set_self hv]at h;cases h
   ·rw[List.getElem?_eq_none (by simpa using hv)]at h;cases h
  ·rw[List.getElem?_set_ne hi]at h
   obtain⟨h1,h2⟩:=zm3 h
   exact⟨h1,by simp only[List.mem_cons,not_or];exact⟨fun e=>hi e.symm,h2⟩⟩
abbrev Cx.blk(X:Cx)(s:Shared)(H:Hp)(scope:Scope)(cenv:Env)(fp:List Addr):Cx:={X with s_0:=s,H_0:=H,env:=cenv,outer:=X.stack,ex:=fp,fn:=fun x=>scope.names.lookup x==some .cell,pn:=[],xe:=fun _ _=>False}
section
variable {X:Cx}{pins:List (Addr×Obj)}{σ:St}{H:Hp}{s:Shared}
theorem zvt{scope:Scope}{own:List (Str×Nat)}{fp:List Addr}(I:Inv X pins σ H s)(ok:BlkOk X.N X.env.scope scope own)(hN:X.N.Nodup)(hfp :∀b∈fp,FpOk X pins H b/\b<s.heap.objs.size) :
  Inv (X.blk s H scope (compEnvC scope (cellsFrom (s.heap.objs.size+1) scope.names (zbw X.env.cells scope.names [])) s.heap.objs.size X.env) fp) [] (wipe σ (own.map (·.2))) H {s with heap:=pushCells (s.heap.push {cls:=.type "dict",data:=.dict #[]}) scope.names}:=by
 have hfree :∀y∈scope.names,y.2=.free->∃c,X.env.cells.lookup y.1=some c:=fun y hy e=>by
  rcases ok.free y hy e with k|k
  ·exact I.ok.has _ (.inl k)
  ·exact I.ok.has _ (.inr k)
 generalize hcenv:compEnvC scope (cellsFrom (s.heap.objs.size+1) scope.names (zbw X.env.cells scope.names [])) s.heap.objs.size X.env=cenv
 have kp :∀b o,s.heap.get? b=some o->(pushCells (s.heap.push {cls:=.type "dict",data:=.dict #[]}) scope.names).get? b=some o:=fun b o e=>pushCells_keeps _ _ _ _ (Heap.get?_push_of_some _ e)
 have hL:cenv.locals=s.heap.objs.size:=by rw[<-hcenv];rfl
 have hcl:cenv.cells=cellsFrom (s.heap.objs.size+1) scope.names (zbw X.env.cells scope.names []):=by rw[<-hcenv];rfl
 have hsc:cenv.scope=relS scope X.env.scope:=by rw[<-hcenv];rfl
 rw[<-Heap.size_push s.heap {cls:=.type "dict",data:=.dict #[]}]at hcl
 have cm :∀{y c},(y,c)∈zbw X.env.cells scope.names []->X.env.cells.lookup y=some c/\c<s.heap.objs.size:=fun {y c} hm=>by
  rcases zhx hm with hm|⟨h1,rfl⟩
  ·cases hm
  ·obtain⟨c,hc⟩:=hfree _ h1 rfl
   rw[hc]
   obtain⟨w,z⟩:=I.cell _ _ hc
   exact⟨rfl,z.lt⟩
 have mem :∀{y c},cenv.cells.lookup y=some c->(X.env.cells.lookup y=some c/\c<s.heap.objs.size)\/(s.heap.objs.size+1<=c/\CellAt (pushCells (s.heap.push {cls:=.type "dict",data:=.dict #[]}) scope.names) c none):=fun {y c} e=>by
  rw[hcl]at e
  rcases zhL (PySem.mem_of_lookup e)with hm|⟨_,h2,h3⟩
  ·exact .inl (cm hm)
  ·rw[Heap.size_push]at h2;exact .inr ⟨h2,h3⟩
 have look :∀{y},scope.names.lookup y=some .free->∃c,cenv.cells.lookup y=some c/\X.env.cells.lookup y=some c:=fun {y} hl=>by
  have hy:(y,NameKind.free)∈scope.names:=PySem.mem_of_lookup hl
  obtain⟨c',e'⟩:=zlJ (zj1 (names:=scope.names) (n:=(s.heap.push {cls:=.type "dict",data:=.dict #[]}).objs.size) (zkl (cells:=X.env.cells) (acc:=[]) hy))
  rw[<-hcl]at e'
  refine⟨c',e',?_⟩
  rw[hcl]at e'
  rcases zhL (PySem.mem_of_lookup e')with hm|⟨h1,_,_⟩
  ·exact(cm hm).1
  ·have:=ok.uniq _ h1
   rw[hl]at this;cases this
 have okB:(X.blk s H scope cenv fp).Ok:=by
  refine⟨I.ok.mod,by show cenv.scope.kind=_;rw[hsc];exact ok.kind,by show cenv.globals=_;rw[<-hcenv];exact I.ok.glob,by show cenv.builtins=_;rw[<-hcenv];exact I.ok.blt,by show s.heap.objs.size<=cenv.locals;rw[hL];exact nLr _,
   fun y z c e1 e2=>?_,fun y hy=>?_,fun y c z e=>?_,I.ok.hd,I.ok.frames,.inl rfl,fun b hb=>⟨?_,fun y c e z=>?_⟩,I.bs,nLt I.ok.bsz I.sz,fun b o e hb=>?_,fun b hb z=>?_,I.stack,I.stkFree⟩
  ·have e1:cenv.cells.lookup y=some c:=e1
   have e2:cenv.cells.lookup z=some c:=e2
   rw[hcl]at e1 e2
   refine zm2 (fun p hp=>?_) (fun y z c a b=>I.ok.inj y z c (cm a).1 (cm b).1) (PySem.mem_of_lookup e1) (PySem.mem_of_lookup e2)
   rw[Heap.size_push]
   exact Nat.lt_succ_of_lt (cm (y:=p.1) (c:=p.2) hp).2
  ·show∃c,cenv.cells.lookup y=some c
   have key :∀k,cenv.kindOf y=some k->(k=.cell\/k=.free)->∃c,cenv.cells.lookup y=some c:=fun k hk hk'=>by
    unfold Env.kindOf at hk
    rw[hsc]at hk
    obtain⟨k',e,r⟩:=zkm hk
    have:k'=.cell\/k'=.free:=by
     rcases r with rfl|⟨rfl,_⟩
     ·exact hk'
     ·exact .inr rfl
    rcases this with rfl|rfl
    ·obtain⟨c,hm⟩:=zm1 (n:=(s.heap.push {cls:=.type "dict",data:=.dict #[]}).objs.size) (acc:=zbw X.env.cells scope.names []) (PySem.mem_of_lookup e)
     obtain⟨c',e'⟩:=zlJ hm
     exact⟨c',by rw[hcl];exact e'⟩
    ·obtain⟨c,h1,_⟩:=look e
     exact⟨c,h1⟩
   rcases hy with hy|hy
   ·exact key _ hy (.inl rfl)
   ·exact key _ hy (.inr rfl)
  ·have z:(scope.names.lookup y==some NameKind.cell)=true:=z
   have z:scope.names.lookup y=some .cell:=by simpa using z
   have e:cenv.cells.lookup y=some c:=e
   rw[hcl]at e
   rcases zhL (PySem.mem_of_lookup e)with hm|⟨_,h2,_⟩
   ·rcases zhx hm with hm|⟨h1,_⟩
    ·cases hm
    ·have q:=ok.uniq _ h1
     rw[z]at q;cases q
   ·rw[Heap.size_push]at h2
    exact Nat.le_of_succ_le h2
  ·show b≠cenv.locals
   rw[hL];exact Nat.ne_of_lt (hfp b hb).2
  ·have e:cenv.cells.lookup y=some c:=e
   rcases mem e with⟨h1,_⟩|⟨h1,_⟩
   ·exact(hfp b hb).1.2.2.2.2.1 y c h1 z
   ·have h2:s.heap.objs.size+1<=b:=by rw[<-z];exact h1
    exact absurd (Nat.lt_of_lt_of_le (hfp b hb).2 (Nat.le_of_succ_le h2)) (Nat.lt_irrefl _)
  ·rcases(hfp b hb).1.2.2.2.1 with z|z
   ·exact I.ok.noex b o e z
   ·exact absurd (Nat.lt_of_lt_of_le (Heap.lt_size e) (nLt I.ok.bsz z)) (Nat.lt_irrefl _)
  ·rcases List.mem_cons.mp (I.stkSub b z)with z|z
   ·exact(hfp b hb).1.2.1 z
   ·exact(hfp b hb).1.2.2.1 z
 refine⟨okB,rfl,I.bare,Un.kept kp,⟨fun _=>none,?_,fun i y av e1 e2 e3=>?_⟩,fun y c e=>?_,?_,fun y c e=>?_,fun p hp=>?_,I.hok.kept kp,by rw[zkn];exact I.len⟩
 ·show Heap.Ns _ cenv.locals _
  rw[hL]
  exact Heap.Ns.keeps (Heap.Ns.new ..) fun b o e=>pushCells_keeps _ _ _ _ e
 ·obtain⟨e2,hne⟩:=zm3 e2
  have hfr:scope.names.lookup y=some .free/\(cenv.kindOf y=some .cell\/cenv.kindOf y=some .free):=by
   have key :∀k,cenv.scope.names.lookup y=some k->k=.local\/k=.cell\/k=.free->scope.names.lookup y=some .free/\(cenv.kindOf y=some .cell\/cenv.kindOf y=some .free):=fun k hk hk'=>by
    have hk0:=hk
    rw[hsc]at hk
    obtain⟨k',e,r⟩:=zkm hk
    have no:¬(k'=.local\/k'=.cell):=fun hh=>by
     rcases ok.own _ (PySem.mem_of_lookup e) hh with e'|e'
     ·obtain⟨p,hp,hpy⟩:=List.mem_map.mp e'
      have e3:=ok.ix p hp
      have:p.1=y:=hpy
      rw[this]at e3
      exact hne (List.mem_map.mpr ⟨p,hp,zpl hN e3 e1⟩)
     ·exact e' (mge e1)
    rcases r with rfl|⟨rfl,rfl⟩
    ·rcases hk' with rfl|rfl|rfl
     ·exact absurd (.inl rfl) no
     ·exact absurd (.inr rfl) no
     ·exact⟨e,.inr hk0⟩
    ·exact⟨e,.inl hk0⟩
   have e3:Vis cenv.scope y:=e3
   rcases e3 with e3|e3|e3
   ·exact key _ e3 (.inl rfl)
   ·exact key _ e3 (.inr (.inl rfl))
   ·exact key _ e3 (.inr (.inr rfl))
  obtain⟨m,hn,hl⟩:=I.loc
  have hvis:Vis X.env.scope y:=(ok.free _ (PySem.mem_of_lookup hfr.1) rfl).elim (fun k=>.inr (.inl k)) (fun k=>.inr (.inr k))
  obtain⟨w,r,q⟩:=hl i y av e1 e2 hvis
  refine⟨w,r,.inr ⟨hfr.2,?_⟩⟩
  obtain⟨c,h1,h2⟩:=look hfr.1
  rcases q with⟨k,_⟩|⟨_,c',e',z⟩
  ·have k:X.env.scope.names.lookup y=some .local:=k
   rcases ok.free _ (PySem.mem_of_lookup hfr.1) rfl with k'|k'<;>rw[show X.env.scope.names.lookup y=_ from k']at k<;>cases k
  ·rw[h2]at e';cases e'
   exact⟨c,h1,z.keeps kp⟩
 ·have e:cenv.cells.lookup y=some c:=e
  rcases mem e with⟨h1,_⟩|⟨_,z⟩
  ·obtain⟨w,z⟩:=I.cell y c h1
   exact⟨w,z.keeps kp⟩
  ·exact⟨_,z⟩
 ·show H cenv.locals=none
  rw[hL];exact I.hok.fresh (nLr _)
 ·have e:cenv.cells.lookup y=some c:=e
  rcases mem e with⟨h1,_⟩|⟨h1,_⟩
  ·exact I.freeC y c h1
  ·exact I.hok.fresh (Nat.le_of_succ_le h1)
 ·exact absurd (show p∈([]:List (Addr×Obj))++[]from hp) (by simp)
theorem zBB{E:Value->Shared->Prop}{D:Addr}{xs:List V}{y:V}{v:Value}{Q:Value->Shared->Prop}(I:Inv X pins σ H s)(hD:H D=some (.lst xs))(hz:xs.length<sizeLine)(r:zZ y v)
  (h :∀s',Inv X pins σ (upd H D (.lst (xs++[y]))) s'->Q .none s'):wpAny (model X.prog X.w) X.A (call (.builtin "list.append") [.ref D,v]) Q E s:=by
 obtain⟨hz',its,n,ri,e⟩:=I.hok D _ hD
 have hl:=ri.length
 refine append_at (hsz:=by rw[List.size_toArray];omega) e fun h' sb ho'=>?_
 refine h {s with heap:=h'} (I.write (t':=s.toks) (by rw[hD];trivial) (.inl rfl) (fun b u hb q=>(sb.2 b hb).trans q) ⟨_,ho'⟩ ⟨by rw[lEa];exact hz,its++[v],n+1,ri.append (.cons r .nil),?_⟩)
 rw[ho']
 simp
def PTs(X:Cx)(ifs:List Expr)(t:TT):Prop:=
 ∀(pins:List (Addr×Obj)) (s:Shared) (σ:St) (H:Hp) (Q:Bool->Hp->Prop),Inv X pins σ H s->t σ H Q->
  wpAny (model X.prog X.w) X.A (forIn ifs true fun c r=>if r=true then do let ok<-isTrue c X.env (eval c X.env);pure (ForInStep.yield ok)else pure (ForInStep.yield r)) (TP X pins σ Q) X.xe s
def tYes:TT:=fun _ H Q=>Q true H
theorem zcq:PTs X [] tYes:=fun _ _ _ H _ I h=>wpAny_tests_nil ⟨H,I,h⟩
end
theorem thnF{α:Type}{t:Sem α}{Q Q':α->Shared->Prop}{M:Model}{A:Around}{E:Value->Shared->Prop}{s:Shared}(h:wpAny M A t Q (fun _ _=>False) s)(hQ :∀a s,Q a s->Q' a s):wpAny M A t Q' E s:=wpAny_mono h hQ fun _ _ z=>False.elim z
theorem ztP{prog:Program}{w:World}{A:Around}{R:Result->Shared->Prop}{s:Shared}{elt target iter:Expr}{ifs:List Expr}{scope:Scope}{pos:Pos}{it acc:Value}{env:Env}(I:Nat->Shared->Prop)
  (turn :∀n s,I n s->wpAny (model prog w) A (pyNext it) (fun r s₁=>match r with
   | none=>R (.ok .next) s₁
   | some v=>wpAny (model prog w) A (letOwnedTupleGo target it v) (fun _ s₁'=>wpAny (model prog w) A (assign target env v) (fun _ s₂=>
     wpAny (model prog w) A (forIn ifs true fun c r=>if r=true then do let ok<-isTrue c env (eval c env);pure (ForInStep.yield ok)else pure (ForInStep.yield r)) (fun ok s₃=>
      if ok=true then wpAny (model prog w) A (eval elt env) (fun x s₄=>
       wpAny (model prog w) A (call (.builtin "list.append") [acc,x]) (fun _ s₅=>∃m,m<n/\I m s₅) (notedBy (model prog w) A env fun e s'=>R (.error e) s') s₄) (notedBy (model prog w) A env fun e s'=>R (.error e) s') s₃
      else∃m,m<n/\I m s₃) (notedBy (model prog w) A env fun e s'=>R (.error e) s') s₂) (notedBy (model prog w) A env fun e s'=>R (.error e) s') s₁') (notedBy (model prog w) A env fun e s'=>R (.error e) s') s₁) (notedBy (model prog w) A env fun e s'=>R (.error e) s') s)
  (n:Nat) (h:I n s) :
  codeAny (model prog w) A (.compLoop (.ListComp elt [⟨target,iter,ifs,0⟩] scope pos) 0 it acc env) R s:=by
 refine codeAny_loop rfl I (fun n s hI=>?_) n h
 show wpAny _ A ((compTurn (.ListComp elt [⟨target,iter,ifs,0⟩] scope pos) 0 it acc env).onRaise (fun x=>do noteFrame x env;theTreesLotGoes x)) _ _ s
 refine wpAny_noted ?_
 rw[compTurn_list]
 refine wpAny_bind (wpAny_standAt (wpAny_bind (wpAny_mono (turn n s hI) (fun r s₁ h₁=>?_) fun _ _ h'=>h')))
 cases r with
 | none=>exact wpAny_pure h₁
 | some v=>
  refine wpAny_bind (wpAny_mono h₁ (fun _ s₁' h₁'=>?_) fun _ _ h'=>h')
  refine wpAny_bind (wpAny_mono h₁' (fun _ s₂ h₂=>wpAny_bind (wpAny_mono h₂ (fun ok s₃ h₃=>?_) fun _ _ h'=>h')) fun _ _ h'=>h')
  cases ok with
  | false=>exact wpAny_pure ⟨rfl,h₃⟩
  | true=>
   exact wpAny_bind (wpAny_bind (wpAny_mono h₃ (fun x s₄ h₄=>wpAny_bind (wpAny_mono h₄ (fun _ s₅ h₅=>wpAny_pure (wpAny_pure ⟨rfl,h₅⟩)) fun _ _ h'=>h')) fun _ _ h'=>h'))
section
variable {X:Cx}
def tLc(wi:TI)(g:TG)(tt:TT)(te:TE)(vs:List Nat):TE:=fun σ H Q=>wi σ H fun J H1=>∀D,H1 D=none->∃W:Nat->Nat->Hp->Prop,(∃m,W 0 m (upd H1 D (.lst [])))/\∀i m H,W i m H->
 (J.stop i H/\Q (.ref D) H)\/(J.go i H/\∃Nx:Hp->Prop,(∀H',Nx H'->∃m',m'<m/\W (i+1) m' H')/\∀x H',J.yld i H x H'->g x (wipe σ vs) H' fun σ2 H2=>wipe σ2 vs=wipe σ vs/\tt σ2 H2 fun b H3=>
  if b=true then te σ2 H3 fun y H4=>∃acc,H4 D=some (.lst acc)/\acc.length<sizeLine/\Nx (upd H4 D (.lst (acc++[y])))else Nx H3)
theorem zwE{pins:List (Addr×Obj)}{s:Shared}{σ:St}{H:Hp}{Q:VK}{elt tg iter:Expr}{ifs:List Expr}{scope:Scope}{own:List (Str×Nat)}{pos pos':Pos}{wi:TI}{g:TG}{tt:TT}{te:TE}{use:Option (Value->Sem Unit)}{Qf:Value->Shared->Prop}
  (hc:X.calm=true) (hN:X.N.Nodup) (I:Inv X pins σ H s) (hi:PI X tg iter wi) (ok:BlkOk X.N X.env.scope scope own)
  (hg :∀(s:Shared) (H:Hp) (C:Addr) (cl:List (Str×Addr)) (fp:List Addr),PG (X.blk s H scope (compEnvC scope cl C X.env) fp) tg g) (ht :∀(s:Shared) (H:Hp) (C:Addr) (cl:List (Str×Addr)) (fp:List Addr),PTs (X.blk s H scope (compEnvC scope cl C X.env) fp) ifs tt)
  (he :∀(s:Shared) (H:Hp) (C:Addr) (cl:List (Str×Addr)) (fp:List Addr),PE (X.blk s H scope (compEnvC scope cl C X.env) fp) elt te) (hs :∀x,foldedSetIterable iter X.env x=pure x)
  (h:tLc wi g tt te (own.map (·.2)) σ H Q)
  (hRR :∀D C s' m H',Inv X pins σ H' s'->Q (.ref D) H'->s'.heap.Ns C m->FpOk X pins H' C->compPost (model X.prog X.w) X.A X.xe use Qf (.ref D) C (.ok .next) s') :
  wpAny (model X.prog X.w) X.A (comprehension (.ListComp elt [⟨tg,iter,ifs,0⟩] scope pos) scope X.env pos' (newList []) false (eval iter X.env) use) Qf X.xe s:=by
 have hfree :∀y∈scope.names,y.2=.free->∃c,X.env.cells.lookup y.1=some c:=fun y hy e=>by
  rcases ok.free y hy e with k|k
  ·exact I.ok.has _ (.inl k)
  ·exact I.ok.has _ (.inr k)
 refine wpAny_comprehension_free (use:=use) rfl hs (zxb hfree) ok.kind (fun y hy e=>by rw[ok.uniq y hy,e])
  (thn (hi pins s σ H _ I h) fun xv s1 hx=>thn hx fun itv s2 h2=>?_)
 obtain⟨it,fp,tn,J,H2,e,I2,T,st2,f2,q⟩:=h2
 subst e
 refine wpAny_newObj_type (zvs ?_) (by show 0<=sizeLine;decide)
 generalize hD:s2.heap.objs.size=D
 have hDn:H2 D=none:=I2.hok.fresh (Nat.le_of_eq hD)
 obtain⟨W,⟨m0,w0⟩,turn⟩:=q D hDn
 generalize hs3:({s2 with heap:=s2.heap.push {cls:=.type "list",data:=.seq ([]:List Value).toArray}}:Shared)=s3
 have I3:Inv X pins σ (upd H2 D (.lst [])) s3:=by
  rw[<-hs3]
  refine I2.laid (t':=s2.toks) (fun b o e=>Heap.get?_push_of_some _ e) (Nat.le_of_eq hD) ⟨Nat.zero_le _,[],0,.nil,?_⟩
  rw[<-hD]
  exact Heap.get?_push_size _ rfl
 have h3:s3.heap=s2.heap.push {cls:=.type "list",data:=.seq ([]:List Value).toArray}:=by rw[<-hs3]
 have sz :∀b∈fp,b<s2.heap.objs.size:=fun b hb=>by
  obtain⟨o,e,_⟩:=T.obj _ _ st2 b hb
  exact Heap.lt_size e
 have f3 :∀b∈fp,FpOk X pins (upd H2 D (.lst [])) b/\b<s3.heap.objs.size:=fun b hb=>by
  have hlt:=sz b hb
  refine⟨⟨?_,(f2 b hb).2⟩,by rw[h3,Heap.size_push];exact Nat.lt_succ_of_lt hlt⟩
  rw[zf (by rw[<-hD];exact Nat.ne_of_lt hlt)]
  exact(f2 b hb).1
 have st3:tn 0 s3.heap:=T.keep _ _ _ st2 fun b _ o e=>by rw[h3];exact Heap.get?_push_of_some _ e
 have I4:=zvt I3 ok hN f3
 have pg:=hg s3 (upd H2 D (.lst [])) s3.heap.objs.size (cellsFrom (s3.heap.objs.size+1) scope.names (zbw X.env.cells scope.names [])) fp
 have pt:=ht s3 (upd H2 D (.lst [])) s3.heap.objs.size (cellsFrom (s3.heap.objs.size+1) scope.names (zbw X.env.cells scope.names [])) fp
 have pe:=he s3 (upd H2 D (.lst [])) s3.heap.objs.size (cellsFrom (s3.heap.objs.size+1) scope.names (zbw X.env.cells scope.names [])) fp
 show codeAny _ _ (.compStart (.ListComp elt [⟨tg,iter,ifs,0⟩] scope pos) 0 (.ref it) (.ref D) (compEnvC scope (cellsFrom (s3.heap.objs.size+1) scope.names (zbw X.env.cells scope.names [])) s3.heap.objs.size X.env)) (compPost (model X.prog X.w) X.A X.xe use Qf (.ref D) s3.heap.objs.size) {s3 with heap:=pushCells (s3.heap.push {cls:=.type "dict",data:=.dict #[]}) scope.names}
 have nfp :∀b∈fp,(upd H2 D (.lst [])) b=none:=fun b hb=>(f3 b hb).1.1
 generalize hce:compEnvC scope (cellsFrom (s3.heap.objs.size+1) scope.names (zbw X.env.cells scope.names [])) s3.heap.objs.size X.env=ce at I4 pg pt pe⊢
 have cL:ce.locals=s3.heap.objs.size:=by subst hce;rfl
 generalize hH3:upd H2 D (.lst [])=H3 at I3 I4 pg pt pe w0 nfp f3
 generalize hs4:({s3 with heap:=pushCells (s3.heap.push {cls:=.type "dict",data:=.dict #[]}) scope.names}:Shared)=s4 at I4⊢
 have st4:tn 0 s4.heap:=T.keep _ _ _ st3 fun b _ o e=>by rw[<-hs4];exact pushCells_keeps _ _ _ _ (Heap.get?_push_of_some _ e)
 have stat :∀{σ':St} {H':Hp} {s':Shared},Inv (X.blk s3 H3 scope ce fp) [] σ' H' s'->(∀b∈fp,H' b=none)->∀b∈fp,FpOk (X.blk s3 H3 scope ce fp) [] H' b:=fun {σ' H' s'} I' hn b hb=>
  ⟨hn b hb,(I'.ok.exf b hb).1,I'.ok.exfs b hb,.inl hb,fun x c e=>(I'.ok.exf b hb).2 x c e,fun p hp=>absurd (show p∈([]:List (Addr×Obj))++[]from hp) (by simp)⟩
 have loop:codeAny (model X.prog X.w) X.A (.compLoop (.ListComp elt [⟨tg,iter,ifs,0⟩] scope pos) 0 (.ref it) (.ref D) ce) (compPost (model X.prog X.w) X.A X.xe use Qf (.ref D) s3.heap.objs.size) s4:=by
  refine ztP (fun n s'=>∃i H',Inv (X.blk s3 H3 scope ce fp) [] (wipe σ (own.map (·.2))) H' s'/\tn i s'.heap/\(∀b∈fp,H' b=none)/\W i n H') ?_ m0 ⟨0,H3,I4,st4,nfp,w0⟩
  rintro n s5 ⟨i,H5,I5,st5,n5,w5⟩
  rcases turn i n H5 w5 with⟨stop,qq⟩|⟨go,Nx,hNx,step⟩
  ·have td:=T.done (X.blk s3 H3 scope ce fp) rfl rfl rfl hc i [] s5 _ H5 (fun _ _=>False) I5 (stat I5 n5) st5 stop
   refine thnF td fun r s6 ⟨hr,I6⟩=>?_
   subst hr
   have I7:Inv X pins σ H5 s6:=I3.call' (ch:=fp) I6.os I6.base I6.hok I6.bare fun b hb=>⟨(f3 b hb).1.2.2.2.1,(f3 b hb).1.2.1,(f3 b hb).1.2.2.2.2.1,(f3 b hb).1.2.2.2.2.2⟩
   have nC:H5 s3.heap.objs.size=none:=by
    have z:H5 ce.locals=none:=I6.free
    rw[cL]at z
    exact z
   obtain⟨m,hn,_⟩:=I6.loc
   have hn:s6.heap.Ns ce.locals m:=hn
   rw[cL]at hn
   exact hRR D s3.heap.objs.size s6 m H5 I7 qq hn (I3.fpOk (nLr _) nC)
  ·have ti:=T.item (X.blk s3 H3 scope ce fp) rfl rfl rfl hc i [] s5 _ H5 (fun _ _=>False) I5 (stat I5 n5) st5 go
   refine thnF ti fun r s6 ⟨u,hr,h6⟩=>?_
   subst hr
   refine thnF h6 fun _ s7 ⟨x,H7,I7,r7,y7,st7,n7⟩=>?_
   have I7':=I7.pinned (stat I7 n7) (T.obj _ _ st7)
   refine thnF (pg _ s7 _ H7 x u _ I7' r7 (step x H7 y7)) fun _ s8 ⟨σ8,H8,I8,hw8,q8⟩=>?_
   refine thnF (pt _ s8 σ8 H8 _ I8 q8) fun b s9 ⟨H9,I9,q9⟩=>?_
   have fin :∀{s':Shared} {H':Hp},Inv (X.blk s3 H3 scope ce fp) ([]++pinsAt fp s7.heap) σ8 H' s'->Nx H'->∃m,m<n/\∃i H',Inv (X.blk s3 H3 scope ce fp) [] (wipe σ (own.map (·.2))) H' s'/\tn i s'.heap/\(∀b∈fp,H' b=none)/\W i m H':=fun {s' H'} I' nx=>by
    obtain⟨m',hm,w'⟩:=hNx H' nx
    have pin' :∀b∈fp,∀o,s7.heap.get? b=some o->s'.heap.get? b=some o/\H' b=none:=fun b hb o e=>
     let z:=I'.pin (b,o) (List.mem_append_right _ (List.mem_append_right _ (zlH hb e)))
     ⟨z.1,z.2.1⟩
    have hl:(wipe σ (own.map (·.2))).length = σ8.length:=by rw[<-hw8,zkn]
    refine⟨m',hm,i+1,H',(I'.unpinned (pins:=[])).weak hl (fun j v e=>?_),T.keep _ _ _ st7 fun b hb o e=>(pin' b hb o e).1,fun b hb=>?_,w'⟩
    ·rw[<-hw8]at e
     exact(zm3 e).1
    ·obtain⟨o,e,_⟩:=T.obj _ _ st7 b hb
     exact(pin' b hb o e).2
   cases b with
   | false=>
    simp only[Bool.false_eq_true,if_false]at q9⊢
    exact fin I9 q9
   | true=>
    simp only[if_true]at q9⊢
    refine thnF (pe _ s9 σ8 H9 _ I9 q9) fun z s10 ⟨yv,H10,I10,r10,acc,hD10,hz10,nx⟩=>?_
    exact zBB (X:=X.blk s3 H3 scope ce fp) I10 hD10 hz10 r10 fun s11 I11=>fin I11 nx
 exact codeAny_compStart_list loop (T.self X.A 0 _ _ _ st4 loop)
theorem zfR{elt tg iter:Expr}{ifs:List Expr}{scope:Scope}{own:List (Str×Nat)}{pos:Pos}{wi:TI}{g:TG}{tt:TT}{te:TE}(hc:X.calm=true)(hN:X.N.Nodup)(hi:PI X tg iter wi)(ok:BlkOk X.N X.env.scope scope own)
  (hg :∀(s:Shared) (H:Hp) (C:Addr) (cl:List (Str×Addr)) (fp:List Addr),PG (X.blk s H scope (compEnvC scope cl C X.env) fp) tg g) (ht :∀(s:Shared) (H:Hp) (C:Addr) (cl:List (Str×Addr)) (fp:List Addr),PTs (X.blk s H scope (compEnvC scope cl C X.env) fp) ifs tt)
  (he :∀(s:Shared) (H:Hp) (C:Addr) (cl:List (Str×Addr)) (fp:List Addr),PE (X.blk s H scope (compEnvC scope cl C X.env) fp) elt te) (hs :∀x,foldedSetIterable iter X.env x=pure x:=by intro _;rfl) :
  PE X (.ListComp elt [⟨tg,iter,ifs,0⟩] scope pos) (tLc wi g tt te (own.map (·.2))):=by
 intro pins s σ H Q I h
 rw[eval_ListComp]
 refine zwE hc hN I hi ok hg ht he hs h fun D C s' m H' I' q hn f=>⟨m,hn,fun h'' sb=>?_⟩
 obtain⟨f0,f1,f2,f3,f4,f5⟩:=f
 exact⟨.ref D,H',I'.turned (t':=s'.toks) (fun b o hb e=>(sb.2 b hb).trans e) f0 f1 f3 f4 f5,rfl,q⟩
theorem zlK{i:Nat}{y:Str}{py:Pos}{elt tg iter:Expr}{ifs:List Expr}{scope:Scope}{own:List (Str×Nat)}{pos spos:Pos}{wi:TI}{g:TG}{tt:TT}{te:TE}(hc:X.calm=true)(hN:X.N.Nodup)(hy:X.N[i]? = some y)(hyl:X.env.scope.names.lookup y=some .local)
  (hsw:swapsWith (.ListComp elt [⟨tg,iter,ifs,0⟩] scope pos) (some (.Name y py)) spos.line X.env=pure true) (hi:PI X tg iter wi) (ok:BlkOk X.N X.env.scope scope own)
  (hg :∀(s:Shared) (H:Hp) (C:Addr) (cl:List (Str×Addr)) (fp:List Addr),PG (X.blk s H scope (compEnvC scope cl C X.env) fp) tg g) (ht :∀(s:Shared) (H:Hp) (C:Addr) (cl:List (Str×Addr)) (fp:List Addr),PTs (X.blk s H scope (compEnvC scope cl C X.env) fp) ifs tt)
  (he :∀(s:Shared) (H:Hp) (C:Addr) (cl:List (Str×Addr)) (fp:List Addr),PE (X.blk s H scope (compEnvC scope cl C X.env) fp) elt te) (hs :∀x,foldedSetIterable iter X.env x=pure x:=by intro _;rfl) :
  PS X (.Assign [.Name y py] (.ListComp elt [⟨tg,iter,ifs,0⟩] scope pos) spos) (tAsg (tLc wi g tt te (own.map (·.2))) (zgp i)):=by
 intro pins s σ H D I h
 rw[exec_Assign_Name_used _ _ _ _ hsw]
 refine wpAny_bind (wpAny_standAt (wpAny_bind ?_))
 show wpAny _ X.A (do let _<-comprehension (.ListComp elt [⟨tg,iter,ifs,0⟩] scope pos) scope X.env (firstIterPos [⟨tg,iter,ifs,0⟩] pos) (newList []) false (eval iter X.env) (some (assign (.Name y py) X.env))) _ _ s
 have h:tLc wi g tt te (own.map (·.2)) σ H (fun x H1=>zgp i x σ H1 D.nx):=h
 refine wpAny_bind (thn (zwE (Qf:=fun _ s'=>SP X pins D .next s') hc hN I hi ok hg ht he hs h fun L C s' m H' I' q hn f=>?_) fun _ s' hq=>wpAny_pure (wpAny_pure hq))
 show wpAny _ _ (assign (.Name y py) X.env (.ref L)) _ _ _
 refine wpAny_assign_Name (zr4 (v:=V.ref L) I' hN hy (.inl hyl) rfl (fun s2 I2 ⟨a,sb,ha⟩=>?_) (.inr hyl))
 obtain⟨f0,f1,f2,f3,f4,f5⟩:=f
 have haC:C≠a:=by
  rcases ha with z|z
  ·rw[z];exact f1
  ·exact fun e=>f4 y a z e.symm
 refine⟨m,hn.sameBut sb haC,fun h3 sb3=>?_⟩
 exact⟨_,H',I2.turned (t':=s2.toks) (fun b o hb e=>(sb3.2 b hb).trans e) f0 f1 f3 f4 f5,q⟩
end
theorem zi5{lo:Int}{n:Nat}{g:TG}{tt:TT}{te:TE}{vs:List Nat}{σ:St}{H1:Hp}{D:Addr}{Qd:Hp->Prop}(Pv:Nat->Hp->Prop)(h0:Pv 0 (upd H1 D (.lst [])))
  (hs :∀i H,i<n->Pv i H->g (.int (lo+i)) (wipe σ vs) H fun σ2 H2=>wipe σ2 vs=wipe σ vs/\tt σ2 H2 fun b H3=>
   if b=true then te σ2 H3 fun y H4=>∃acc,H4 D=some (.lst acc)/\acc.length<sizeLine/\Pv (i+1) (upd H4 D (.lst (acc++[y])))else Pv (i+1) H3) (hd :∀H,Pv n H->Qd H) :
  ∃W:Nat->Nat->Hp->Prop,(∃m,W 0 m (upd H1 D (.lst [])))/\∀i m H,W i m H->
   ((Itr lo n).stop i H/\Qd H)\/((Itr lo n).go i H/\∃Nx:Hp->Prop,(∀H',Nx H'->∃m',m'<m/\W (i+1) m' H')/\∀x H',(Itr lo n).yld i H x H'->g x (wipe σ vs) H' fun σ2 H2=>wipe σ2 vs=wipe σ vs/\tt σ2 H2 fun b H3=>
     if b=true then te σ2 H3 fun y H4=>∃acc,H4 D=some (.lst acc)/\acc.length<sizeLine/\Nx (upd H4 D (.lst (acc++[y])))else Nx H3):=by
 refine⟨fun i m H=>m=n-i/\i<=n/\Pv i H,⟨n,by simp,Nat.zero_le _,h0⟩,?_⟩
 rintro i m H ⟨rfl,hi,p⟩
 by_cases hlt:i<n
 ·refine .inr ⟨hlt,Pv (i+1),fun H' p'=>⟨n-(i+1),by omega,rfl,hlt,p'⟩,fun x H' y=>?_⟩
  obtain⟨e,y⟩:=y
  subst e y
  exact hs i _ hlt p
 ·have e:i=n:=by omega
  subst e
  exact .inl ⟨nLr _,hd H p⟩
theorem zgc{K:Fg}{a:Addr}{xs:List V}{g:TG}{tt:TT}{te:TE}{vs:List Nat}{σ:St}{H1:Hp}{D:Addr}{Qd:Hp->Prop}(Pv:Nat->Hp->Prop)(h0:Pv 0 (upd H1 D (.lst [])))(hl :∀i H,i<=xs.length->Pv i H->SqL K H a xs)
  (hs :∀i x H,xs[i]? = some x->Pv i H->g x (wipe σ vs) H fun σ2 H2=>wipe σ2 vs=wipe σ vs/\tt σ2 H2 fun b H3=>
   if b=true then te σ2 H3 fun y H4=>∃acc,H4 D=some (.lst acc)/\acc.length<sizeLine/\Pv (i+1) (upd H4 D (.lst (acc++[y])))else Pv (i+1) H3) (hd :∀H,Pv xs.length H->Qd H) :
  ∃W:Nat->Nat->Hp->Prop,(∃m,W 0 m (upd H1 D (.lst [])))/\∀i m H,W i m H->
   ((Itl K a).stop i H/\Qd H)\/((Itl K a).go i H/\∃Nx:Hp->Prop,(∀H',Nx H'->∃m',m'<m/\W (i+1) m' H')/\∀x H',(Itl K a).yld i H x H'->g x (wipe σ vs) H' fun σ2 H2=>wipe σ2 vs=wipe σ vs/\tt σ2 H2 fun b H3=>
     if b=true then te σ2 H3 fun y H4=>∃acc,H4 D=some (.lst acc)/\acc.length<sizeLine/\Nx (upd H4 D (.lst (acc++[y])))else Nx H3):=by
 refine⟨fun i m H=>m=xs.length-i/\i<=xs.length/\Pv i H,⟨xs.length,by simp,Nat.zero_le _,h0⟩,?_⟩
 rintro i m H ⟨rfl,hi,p⟩
 have q:=hl i H hi p
 by_cases hlt:i<xs.length
 ·refine .inr ⟨⟨xs,xs[i],q,by simp[hlt]⟩,Pv (i+1),fun H' p'=>⟨xs.length-(i+1),by omega,rfl,hlt,p'⟩,fun x H' y=>?_⟩
  obtain⟨e,y⟩:=y
  subst e
  exact hs i x _ (y xs q) p
 ·have e:i=xs.length:=by omega
  subst e
  exact .inl ⟨⟨xs,q,nLr _⟩,hd H p⟩
def blkC(N:List Str)(sc scope:Scope)(own:List (Str×Nat)):Bool:=
 (match scope.kind with|.function=>true|_=>false)&&(scope.names.all fun y=>decide (scope.names.lookup y.1=some y.2))&&(own.all fun p=>decide (N[p.2]? = some p.1)) &&
  (scope.names.all fun y=>match y.2 with
   | .free=>(match sc.names.lookup y.1 with|some .cell=>true|some .free=>true|_=>false)
   | .local=>decide (y.1∈own.map (·.1)) || decide (y.1∉N)
   | .cell=>decide (y.1∈own.map (·.1)) || decide (y.1∉N)
   | _=>true)
theorem zbQ{N:List Str}{sc scope:Scope}{own:List (Str×Nat)}(h:blkC N sc scope own=true):BlkOk N sc scope own:=by
 unfold blkC at h
 simp only[bAt,List.all_eq_true,decide_eq_true_eq]at h
 obtain⟨⟨⟨h1,h2⟩,h3⟩,h4⟩:=h
 refine⟨?_,h2,h3,fun y hy e=>?_,fun y hy e=>?_⟩
 ·split at h1
  ·assumption
  ·cases h1
 ·have q:=h4 y hy
  simp only[e]at q
  split at q<;>first|exact .inl (by assumption)|exact .inr (by assumption)|cases q
 ·have q:=h4 y hy
  rcases e with e|e<;>(simp only[e,Bool.or_eq_true,decide_eq_true_eq]at q;exact q)
section
variable {κ:Type}[DecidableEq κ]
def valV(kvs:List (κ×V))(k:κ):Option V:=(kvs.find? fun kv=>decide (kv.1=k)).map (·.2)
def zdB(kvs:List (κ×V))(k:κ)(v:V):List (κ×V):=
 if(kvs.any fun kv=>decide (kv.1=k))=true then kvs.map (fun kv=>if kv.1=k then(kv.1,v)else kv)else kvs++[(k,v)]
theorem zi6{p:κ×V}{r:List (κ×V)}{k:κ}(e:p.1=k):valV (p::r) k=some p.2:=by simp[valV,List.find?_cons,e]
theorem zi7{p:κ×V}{r:List (κ×V)}{k:κ}(e:¬p.1=k):valV (p::r) k=valV r k:=by simp[valV,List.find?_cons,e]
theorem ztQ(k:κ) :∀kvs:List (κ×V),(kvs.any fun kv=>decide (kv.1=k))=(valV kvs k).isSome
 | []=>rfl
 | p::r=>by
  rw[List.any_cons]
  by_cases e:p.1=k
  ·simp only[zi6 e,decide_eq_true e,Bool.true_or,Option.isSome_some]
  ·rw[zi7 e,decide_eq_false e,Bool.false_or];exact ztQ k r
theorem zko(kvs:List (κ×V))(k:κ)(v:V):(zdB kvs k v).length<=kvs.length+1:=by
 unfold zdB
 split
 ·rw[lmm];omega
 ·rw[lEa,List.length_cons,List.length_nil];omega
theorem RelO.isSome_eq{o:Option V}{u:Option Value}(r:RelO o u):o.isSome=u.isSome:=by
 cases o with
 | none=>cases u with
  | none=>rfl
  | some _=>exact(show False from r).elim
 | some _=>cases u with
  | none=>exact(show False from r).elim
  | some _=>rfl
theorem RelO.getD{o:Option V}{u:Option Value}{d:V}{d':Value}(r:RelO o u)(rd:zZ d d'):zZ (o.getD d) (u.getD d'):=by
 cases o with
 | none=>cases u with
  | none=>exact rd
  | some _=>exact(show False from r).elim
 | some _=>cases u with
  | none=>exact(show False from r).elim
  | some _=>exact r
theorem KV.val{kvs:List (κ×V)}{vs:List (κ×Value)}(r:KV kvs vs)(k:κ):RelO (valV kvs k) (valueAt vs k):=by
 unfold KV at r
 induction r with
 | nil=>exact True.intro
 | @cons p q ps qs h t ih=>
  obtain⟨h1,h2⟩:=h
  by_cases e:p.1=k
  ·have e':q.1=k:=h1.symm.trans e
   have b:valueAt (q::qs) k=some q.2:=by simp[valueAt,List.find?_cons,e']
   rw[zi6 e,b];exact h2
  ·have e':¬q.1=k:=fun z=>e (h1.trans z)
   have b:valueAt (q::qs) k=valueAt qs k:=by simp[valueAt,List.find?_cons,e']
   rw[zi7 e,b];exact ih
theorem KV.any{kvs:List (κ×V)}{vs:List (κ×Value)}(r:KV kvs vs)(k:κ):(kvs.any fun kv=>decide (kv.1=k))=vs.any fun kv=>decide (kv.1=k):=by
 unfold KV at r
 induction r with
 | nil=>rfl
 | cons h t ih=>rw[List.any_cons,List.any_cons,ih,h.1]
theorem KV.repl{kvs:List (κ×V)}{vs:List (κ×Value)}(r:KV kvs vs)(k:κ){y:V}{u:Value}(ry:zZ y u) :
  KV (kvs.map fun kv=>if kv.1=k then(kv.1,y)else kv) (vs.map fun kv=>if kv.1=k then(kv.1,u)else kv):=by
 unfold KV at r⊢
 induction r with
 | nil=>exact .nil
 | @cons p q ps qs h t ih=>
  rw[List.map_cons,List.map_cons]
  refine .cons ?_ ih
  obtain⟨h1,h2⟩:=h
  by_cases e:p.1=k
  ·rw[if_pos e,if_pos (h1.symm.trans e)];exact⟨h1,ry⟩
  ·rw[if_neg e,if_neg (fun z=>e (h1.trans z))];exact⟨h1,h2⟩
theorem KV.put{kvs:List (κ×V)}{vs:List (κ×Value)}(r:KV kvs vs)(k:κ){y:V}{u:Value}(ry:zZ y u):KV (zdB kvs k y) (stored vs k u):=by
 unfold zdB stored
 rw[r.any k]
 by_cases e:(vs.any fun kv=>decide (kv.1=k))=true
 ·rw[if_pos e,if_pos e];exact r.repl k ry
 ·rw[if_neg e,if_neg e];exact Paired.snoc r ⟨rfl,ry⟩
theorem KV.length{kvs:List (κ×V)}{vs:List (κ×Value)}(r:KV kvs vs):kvs.length=vs.length:=Paired.length r
end
theorem ztA{P:Program}{w:World}{k:Key}{u:Value}(r:zZ (kV k) u):(zbv P w).is k u=true:=by
 cases k with
 | inl i=>obtain⟨t,e⟩:=(show∃t,u=Value.int i t from r);subst e;exact zvp P w i t
 | inr x=>obtain⟨t,e⟩:=(show∃t,u=Value.str x t from r);subst e;exact zvq P w x t
theorem zsc{P:Program}{w:World} :∀{ks:List Key} {us:List Value},zQ (ks.map kV) us->ItemsAre (zbv P w) ks us
 | [],_,r=>by rw[List.map_nil]at r;cases r;exact .nil
 | k::ks,_,r=>by
  rw[List.map_cons]at r
  cases r with
  | cons h t=>exact .cons (ztA h) (zsc t)
abbrev KT(H:Hp):List (List Key×V)->List (List Key×Addr×Value)->Prop:=Paired fun p q=>p.1=q.1/\H q.2.1=some (.tup (p.1.map kV))/\zZ p.2 q.2.2
theorem KT.val{H:Hp}{kvs:List (List Key×V)}{xs:List (List Key×Addr×Value)}(r:KT H kvs xs)(k:List Key):RelO (valV kvs k) ((atKey xs k).map (·.2)):=by
 induction r with
 | nil=>exact True.intro
 | @cons p q ps qs h t ih=>
  obtain⟨h1,_,h2⟩:=h
  by_cases e:p.1=k
  ·have e':q.1=k:=h1.symm.trans e
   have b:atKey (q::qs) k=some q.2:=by simp[atKey,List.find?_cons,e']
   rw[zi6 e,b];exact h2
  ·have e':¬q.1=k:=fun z=>e (h1.trans z)
   have b:atKey (q::qs) k=atKey qs k:=by simp[atKey,List.find?_cons,e']
   rw[zi7 e,b];exact ih
theorem KT.repl{H:Hp}{kvs:List (List Key×V)}{xs:List (List Key×Addr×Value)}(r:KT H kvs xs)(k:List Key){y:V}{u:Value}(ry:zZ y u) :
  KT H (kvs.map fun kv=>if kv.1=k then(kv.1,y)else kv) (xs.map (putAt k u)):=by
 induction r with
 | nil=>exact .nil
 | @cons p q ps qs h t ih=>
  rw[List.map_cons,List.map_cons]
  refine .cons ?_ ih
  obtain⟨h1,h2,h3⟩:=h
  unfold putAt
  by_cases e:p.1=k
  ·rw[if_pos e,if_pos (h1.symm.trans e)];exact⟨h1,h2,ry⟩
  ·rw[if_neg e,if_neg (fun z=>e (h1.trans z))];exact⟨h1,h2,h3⟩
theorem KT.put{H:Hp}{kvs:List (List Key×V)}{xs:List (List Key×Addr×Value)}(r:KT H kvs xs)(k:List Key){b:Addr}{y:V}{u:Value}(hb:H b=some (.tup (k.map kV)))(ry:zZ y u) :
  KT H (zdB kvs k y) (storedH xs k b u):=by
 have e:(kvs.any fun kv=>decide (kv.1=k))=(atKey xs k).isSome:=by
  rw[ztQ,(r.val k).isSome_eq,Option.isSome_map]
 unfold zdB storedH
 rw[e]
 by_cases q:(atKey xs k).isSome=true
 ·rw[if_pos q,if_pos q];exact r.repl k ry
 ·rw[if_neg q,if_neg q];exact Paired.snoc r ⟨rfl,hb,ry⟩
theorem KT.keeps{H H':Hp}{kvs:List (List Key×V)}{xs:List (List Key×Addr×Value)}(r:KT H kvs xs)(ht :∀b ys,H b=some (.tup ys)->H' b=some (.tup ys)):KT H' kvs xs:=
 Paired.mapP r fun _ _ z=>⟨z.1,ht _ _ z.2.1,z.2.2⟩
section
variable {P:Program}{w:World}{H:Hp}{h:Heap}{a:Addr}
theorem zAg{u:HO}(ok:HOk P w H h)(e:Rd H a u):zbr P w H h a u:=e.ok ok
theorem ztB{kvs:List (Key×V)}(ok:HOk P w H h)(e:Rd H a (.dK kvs)):kvs.length<=sizeLine/\(a==sysModules)=false/\∃vs,KV kvs vs/\h.DictOf (zbv P w) a vs:=
 show zbr P w H h a (.dK kvs)from zAg ok e
theorem zAh{kvs:List (Key×V)}(ok:HOk P w H h)(e:H a=some (.dK kvs)):kvs.length<=sizeLine/\(a==sysModules)=false/\∃vs,KV kvs vs/\h.DictOf (zbv P w) a vs:=ztB ok (.inl e)
theorem ztR{ks:List Key}(ok:HOk P w H h)(e:H a=some (.tup (ks.map kV))):(tupleKind (zbv P w)).is h ks a:=by
 obtain⟨_,its,r,o,h1,h2,n,h3⟩:=(show zbr P w H h a (.tup (ks.map kV))from ok a _ e)
 exact⟨o,its.toArray,n,h1,h2,h3,by simpa using zsc r⟩
theorem zxc{kvs:List (List Key×V)}(ok:HOk P w H h)(e:Rd H a (.dT kvs)):kvs.length<=sizeLine/\(a==sysModules)=false/\
  ∃xs,KT H kvs xs/\h.DictOfH (tupleKind (zbv P w)) a xs:=by
 obtain⟨z,y,xs,r,o,es,ep,h1,h2,h3,h4,h5⟩:=(show zbr P w H h a (.dT kvs)from zAg ok e)
 refine⟨z,y,xs,r,o,es,ep,h1,h2,h3,h4,fun x hx=>?_,h5⟩
 have all :∀{l:List (List Key×V)} {m:List (List Key×Addr×Value)},KT H l m->∀x∈m,(tupleKind (zbv P w)).is h x.1 x.2.1:=by
  intro l m q
  induction q with
  | nil=>intro x hx;exact nomatch hx
  | @cons p q ps qs hq t ih=>
   intro x hx
   rcases List.mem_cons.mp hx with e|hx
   ·subst e
    exact ztR ok (by rw[<-hq.1];exact hq.2.1)
   ·exact ih x hx
 exact all r x hx
theorem zCb{kvs:List (List Key×V)}(ok:HOk P w H h)(e:H a=some (.dT kvs)):kvs.length<=sizeLine/\(a==sysModules)=false/\
  ∃xs,KT H kvs xs/\h.DictOfH (tupleKind (zbv P w)) a xs:=zxc ok (.inl e)
end
def DGet(H:Hp)(a:Addr)(y:V)(r:Option V):Prop:=
 (∃kvs k,Rd H a (.dK kvs)/\y=kV k/\r=valV kvs k)\/∃kvs k b,Rd H a (.dT kvs)/\y=.ref b/\H b=some (.tup (k.map kV))/\r=valV kvs k
def DPut(H:Hp)(a:Addr)(y v:V)(H':Hp):Prop:=
 (∃kvs k,H a=some (.dK kvs)/\y=kV k/\kvs.length<sizeLine/\H'=upd H a (.dK (zdB kvs k v)))\/
 ∃kvs k b,H a=some (.dT kvs)/\y=.ref b/\H b=some (.tup (k.map kV))/\kvs.length<sizeLine/\H'=upd H a (.dT (zdB kvs k v))
theorem DGet.k{H:Hp}{a:Addr}{kvs:List (Key×V)}{k:Key}(e:H a=some (.dK kvs)):DGet H a (kV k) (valV kvs k):=.inl ⟨kvs,k,.inl e,rfl,rfl⟩
theorem DPut.k{H:Hp}{a:Addr}{kvs:List (Key×V)}{k:Key}{v:V}(e:H a=some (.dK kvs))(hl:kvs.length<sizeLine):DPut H a (kV k) v (upd H a (.dK (zdB kvs k v))):=.inl ⟨kvs,k,e,rfl,hl,rfl⟩
section
variable {X:Cx}{pins:List (Addr×Obj)}{σ:St}{H:Hp}{s:Shared}{a:Addr}{y v:V}{u r:Value}{o:Option V}{A:Around}{E:Value->Shared->Prop}
theorem Inv.big(I:Inv X pins σ H s):sysModules<s.heap.objs.size:=by
 have h:mainGlobals<s.heap.objs.size:=(I.mod.glob.keeps I.bk).lt
 exact Nat.lt_trans (by decide) h
theorem zq6{h':Heap}{t':Nat}{ob:HO}(I:Inv X pins σ H s)(mu:Mut (H a))(hs:Heap.SameBut a s.heap h')(he :∃q,h'.get? a=some q)(new:zbr X.prog X.w (upd H a ob) h' a ob) :
  Inv X pins σ (upd H a ob) {s with heap:=h',toks:=t'}:=
 I.write (x:=a) (e:=a) mu (.inl rfl) (fun b q hb z=>(hs.2 b hb).trans z) he new
theorem ztS{P:Program}{w:World}{H':Hp}{h':Heap}{kvs:List (Key×V)}{vs:List (Key×Value)}(z:kvs.length<=sizeLine)(hd:(a==sysModules)=false)(rel:KV kvs vs)(dd:h'.DictOf (zbv P w) a vs) :
  zbr P w H' h' a (.dK kvs):=⟨z,hd,vs,rel,dd⟩
theorem zyn{H':Hp}{Q:Unit->Shared->Prop}(hu:A.units+1<cLine)(I:Inv X pins σ H s)(g:DPut H a y v H')(ry:zZ y u)(rv:zZ v r)(h :∀s',Inv X pins σ H' s'->Q () s') :
  wpAny (model X.prog X.w) A (setItem (.ref a) u r) Q E s:=by
 rcases g with⟨kvs,k,e,ey,l,eH⟩|⟨kvs,k,b,e,ey,eb,l,eH⟩
 ·subst ey eH
  obtain⟨z,hd,vs,rel,dd⟩:=zAh I.hok e
  have hz:vs.length<=sizeLine:=by rw[<-rel.length];exact z
  have hl:(zdB kvs k v).length<=sizeLine:=by have:=zko kvs k v;omega
  refine wpAny_setItem_pairs (hsz:=hz) (ztA ry) dd fun h' dd' hs=>h _ ?_
  have he :∃q,h'.get? a=some q:=let⟨q,_,_,hq,_⟩:=dd';⟨q,hq⟩
  exact zq6 I (by rw[e];exact True.intro) hs he (ztS hl hd (rel.put k rv) dd')
 ·subst ey eH
  cases (show u=Value.ref b from ry)
  obtain⟨z,hd,xs,rel,dd⟩:=zCb I.hok e
  have hz:xs.length<=sizeLine:=by rw[<-Paired.length rel];exact z
  have hl:(zdB kvs k v).length<=sizeLine:=by have:=zko kvs k v;omega
  refine wpAny_setItem_heap (hsz:=hz) (tupleKind_room_in1 hu) (ztR I.hok eb) dd fun h' dd' hs=>h _ ?_
  obtain⟨q,es,ep,hq,h2,h3,h4,_,h5⟩:=dd'
  refine zq6 I (by rw[e];exact True.intro) hs ⟨q,hq⟩ ⟨hl,hd,_,(rel.put k eb rv).keeps fun c ys ec=>?_,q,es,ep,hq,h2,h3,h4,h5⟩
  rw[zf (zI ec e (fun z=>nomatch z))]
  exact ec
end
def sDPut(td ty tv:TE):TS:=fun D σ H=>tv σ H fun v H1=>td σ H1 fun x H2=>ty σ H2 fun y H3=>E2 fun a H4=>x=.ref a/\DPut H3 a y v H4/\D.nx σ H4
section
variable {X:Cx}{o i e value:Expr}{pos pos' tpos:Pos}{td ty tv:TE}
theorem zAw(hu:X.A.units+1<cLine)(ho:PE X o td)(hi:PE X i ty)(hv:PE X value tv)(hs:swapsWith value (some (.Subscript o i pos')) pos.line X.env=pure false) :
  PS X (.Assign [.Subscript o i pos'] value pos) (sDPut td ty tv):=by
 intro pins s σ H D I h
 refine wpAny_Assign_Subscript (thn (hv pins s σ H _ I h) fun r s1 ⟨v,H1,I1,rv,q1⟩=>thn (ho pins s1 σ H1 _ I1 q1) fun u s2 ⟨x,H2,I2,rx,q2⟩=>thn (hi pins s2 σ H2 _ I2 q2) fun iv s3 ⟨y,H3,I3,ry,a,H4,ex,g,q3⟩=>?_) hs
 subst ex
 obtain rfl:u=Value.ref a:=rx
 exact zyn hu I3 g ry rv fun s4 I4=>⟨σ,H4,I4,q3⟩
end
theorem zzl{P:Program}{w:World}{H:Hp}(h:Heap)(hb:sysModules<h.objs.size):zbr P w H (h.push {cls:=.type "dict",data:=.dict #[]}) h.objs.size (.dK []):=
 ⟨Nat.zero_le _,beq_eq_false_iff_ne.mpr (Ne.symm (Nat.ne_of_lt hb)),[],.nil,Heap.DictOf.new h⟩
def tPairs:List (TE×TE)->St->Hp->(List (V×V)->Hp->Prop)->Prop
 | [],_,H,Q=>Q [] H
 | (tk,tv)::r,σ,H,Q=>tk σ H fun x H1=>tv σ H1 fun y H2=>tPairs r σ H2 fun ps H3=>Q ((x,y)::ps) H3
abbrev VV:List (V×V)->List (Value×Value)->Prop:=Paired fun p q=>zZ p.1 q.1/\zZ p.2 q.2
def PPs(X:Cx)(pos:Pos)(keys:List (Option Expr))(values:List Expr)(trs:List (TE×TE)):Prop:=
 ∀(pins:List (Addr×Obj)) (s:Shared) (σ:St) (H:Hp) (Q:List (V×V)->Hp->Prop),Inv X pins σ H s->tPairs trs σ H Q->
  wpAny (model X.prog X.w) X.A (evalPairs (pairTrees keys values X.env pos)) (fun vs s'=>∃ps H',Inv X pins σ H' s'/\VV ps vs/\Q ps H') X.xe s
theorem zAx{X:Cx}{pos:Pos}:PPs X pos [] [] []:=fun pins s σ H Q I h=>pairTrees_nil_walk ⟨[],H,I,.nil,h⟩
theorem zzm{X:Cx}{pos:Pos}{k v:Expr}{ks:List (Option Expr)}{vs:List Expr}{tk tv:TE}{trs:List (TE×TE)}(hk:PE X k tk)(hv:PE X v tv)(hr:PPs X pos ks vs trs) :
  PPs X pos (some k::ks) (v::vs) ((tk,tv)::trs):=fun pins s σ H Q I h=>
 pairTrees_cons_walk (thn (hk pins s σ H _ I h) fun u s1 ⟨x,H1,I1,rx,q1⟩=>thn (hv pins s1 σ H1 _ I1 q1) fun w2 s2 ⟨y,H2,I2,ry,q2⟩=>
  thn (hr pins s2 σ H2 _ I2 q2) fun ws s3 ⟨ps,H3,I3,rel,q3⟩=>⟨(x,y)::ps,H3,I3,.cons ⟨rx,ry⟩ rel,q3⟩)
def zkZ(kvs more:List (Key×V)):List (Key×V):=more.foldl (fun acc kv=>zdB acc kv.1 kv.2) kvs
theorem KV.merge :∀{more:List (Key×V)} {rs:List (Key×Value)} {kvs:List (Key×V)} {vs:List (Key×Value)},KV more rs->KV kvs vs->KV (zkZ kvs more) (merged vs rs):=by
 intro more rs kvs vs r
 unfold KV at r
 induction r generalizing kvs vs with
 | nil=>intro q;exact q
 | @cons p q ps qs h t ih=>
  intro r0
  have e:KV (zdB kvs p.1 p.2) (stored vs q.1 q.2):=by
   have:=r0.put p.1 h.2
   rw[<-h.1];exact this
  exact ih e
theorem zmr :∀(more kvs:List (Key×V)),(zkZ kvs more).length<=kvs.length+more.length
 | [],kvs=>by show kvs.length<=kvs.length+0;omega
 | p::r,kvs=>by
  have h1:=zmr r (zdB kvs p.1 p.2)
  have h2:=zko kvs p.1 p.2
  show(zkZ (zdB kvs p.1 p.2) r).length<=_
  rw[List.length_cons];omega
theorem zp7{P:Program}{w:World} :∀{kvs:List (Key×V)} {ws:List (Value×Value)},VV (kvs.map fun kv=>(kV kv.1,kv.2)) ws->∃rs,Carries (zbv P w) ws rs/\KV kvs rs
 | [],_,r=>by rw[List.map_nil]at r;cases r;exact⟨[],True.intro,.nil⟩
 | p::kvs,_,r=>by
  rw[List.map_cons]at r
  cases r with
  | @cons a b as bs h t=>
   obtain⟨rs,c,q⟩:=zp7 (P:=P) (w:=w) t
   obtain⟨b1,b2⟩:=b
   exact⟨(p.1,b2)::rs,⟨ztA h.1,rfl,c⟩,.cons ⟨rfl,h.2⟩ q⟩
def tDisp(trs:List (TE×TE)):TE:=fun σ H Q=>∀p,H p=none->tPairs trs σ (upd H p (.dK [])) fun ps H2=>H2 p=some (.dK [])/\∃kvs:List (Key×V),ps=kvs.map (fun kv=>(kV kv.1,kv.2))/\kvs.length<=15/\Q (.ref p) (upd H2 p (.dK (zkZ [] kvs)))
theorem zAy{X:Cx}{pos:Pos}{keys:List (Option Expr)}{values:List Expr}{trs:List (TE×TE)}(h:PPs X pos keys values trs)(hall:keys.all (·.isSome)=true)(hl:keys.length=values.length)(h0:keys≠[])
  (h15:keys.length<=15):PE X (.Dict keys values pos) (tDisp trs):=by
 intro pins s σ H Q I q
 have hn:=I.hok.fresh (nLr s.heap.objs.size)
 have I1:=I.laid (a:=s.heap.objs.size) (o:=.dK []) (h':=s.heap.push {cls:=.type "dict",data:=.dict #[]}) (t':=s.toks) (fun _ _ q=>Heap.get?_push_of_some _ q) (nLr _) (zzl s.heap I.big)
 refine wpAny_Dict_walk (knd:=zbv X.prog X.w) hall hl h0 h15 (thn (h pins _ σ _ _ I1 (q _ hn)) fun ws s2 ⟨ps,H2,I2,rel,e,kvs,ep,lk,q2⟩=>?_)
 subst ep
 obtain⟨rs,c,rk⟩:=zp7 (P:=X.prog) (w:=X.w) rel
 obtain⟨z,hd,vs0,r0,dd⟩:=zAh I2.hok e
 cases r0
 refine⟨rs,c,dd,fun h' dd' hs=>⟨.ref s.heap.objs.size,_,?_,rfl,q2⟩⟩
 have hz:(zkZ [] kvs).length<=sizeLine:=by
  have h1:=zmr kvs []
  rw[List.length_nil]at h1
  rw[sizeLine_eq];omega
 have he :∃q,h'.get? s.heap.objs.size=some q:=let⟨q,_,_,hq,_⟩:=dd';⟨q,hq⟩
 exact zq6 I2 (by rw[e];exact True.intro) hs he (ztS hz hd (rk.merge .nil) dd')
structure M2(X:Cx)(o:Expr)(m:Str)(apos:Pos)(e f:Expr)(cpos:Pos):Prop where
 base:attributeBase o m X.env (eval o X.env)=eval o X.env
 few:((backTo cpos (starEach [e,f] X.env)).all (fun x=>!x.1)&&(backToKw cpos (keywordEach [] X.env)).all (fun x=>x.1.isSome)
  && decide (([e,f]:List Expr).length+([]:List Keyword).length+(if([]:List Keyword).isEmpty then 0 else 1)<30))=true
 line:(apos.endLine==cpos.line)=true
 trees:backTo cpos (starEach [e,f] X.env)=[(false,eval e X.env),(false,eval f X.env)]
def IsD(H:Hp)(a:Addr):Prop:=(∃kvs,Rd H a (.dK kvs))\/∃kvs,Rd H a (.dT kvs)
theorem zBC{X:Cx}{pins:List (Addr×Obj)}{σ:St}{H:Hp}{s:Shared}{a:Addr}(I:Inv X pins σ H s)(d:IsD H a) :
  s.TypeIs (.ref a) "dict"/\(∀b,Value.ref a=.ref b->∃ob,s.heap.get? b=some ob/\ob.dict=none)/\(a==sysModules)=false:=by
 rcases d with⟨kvs,e⟩|⟨kvs,e⟩
 ·obtain⟨_,hd,vs,_,dd⟩:=ztB I.hok e
  refine⟨dd.typeIs,fun b q=>?_,hd⟩
  cases q
  obtain⟨ob,_,_,h1,h2,_⟩:=dd
  exact⟨ob,h1,h2.2.1⟩
 ·obtain⟨_,hd,xs,_,dd⟩:=zxc I.hok e
  refine⟨dd.typeIs,fun b q=>?_,hd⟩
  cases q
  obtain⟨ob,_,_,h1,h2,_⟩:=dd
  exact⟨ob,h1,h2.2.1⟩
section
variable {X:Cx}{pins:List (Addr×Obj)}{σ:St}{H:Hp}{s:Shared}{a:Addr}{y d:V}{u r:Value}{o:Option V}{A:Around}{E:Value->Shared->Prop}
theorem zBD{Q:Value->Shared->Prop}(hu:A.units+1<cLine)(I:Inv X pins σ H s)(g:DGet H a y o)(ry:zZ y u)(rd:zZ d r)(h :∀w' s',Inv X pins σ H s'->zZ (o.getD d) w'->Q w' s') :
  wpAny (model X.prog X.w) A (call (.builtin "dict.get") [.ref a,u,r]) Q E s:=by
 rcases g with⟨kvs,k,e,ey,l⟩|⟨kvs,k,b,e,ey,eb,l⟩
 ·subst ey
  obtain⟨z,hd,vs,rel,dd⟩:=ztB I.hok e
  refine call_meetsIn PySem.F.slot_dict_get dd.typeIs PySem.F.entry_dict_get (PySem.F.args_dict_get_3 _ _ _) (meets_dict_get_default (zbv X.prog X.w) a (ztA ry) hd r) ⟨_,dd.mapOf,h _ _ (I.tok _) ?_⟩
  rw[l]
  exact(rel.val k).getD rd
 ·subst ey
  cases (show u=Value.ref b from ry)
  obtain⟨z,hd,xs,rel,dd⟩:=zxc I.hok e
  refine call_meetsIn PySem.F.slot_dict_get dd.typeIs PySem.F.entry_dict_get (PySem.F.args_dict_get_3 _ _ _) (meetsH_dict_get_default (tupleKind (zbv X.prog X.w)) a b hd r) ⟨tupleKind_room_in1 hu,k,xs,ztR I.hok eb,dd,h _ _ (I.tok _) ?_⟩
  rw[l]
  exact(rel.val k).getD rd
end
def tDGet2(td ty tx:TE):TE:=fun σ H Q=>td σ H fun x H1=>∃a,x=.ref a/\IsD H1 a/\ty σ H1 fun y H2=>tx σ H2 fun z H3=>∃o,DGet H3 a y o/\Q (o.getD z) H3
section
variable {X:Cx}{o e f:Expr}{apos cpos:Pos}{td ty tx:TE}
theorem zzn(hu:X.A.units+1<cLine)(ho:PE X o td)(he:PE X e ty)(hf:PE X f tx)(m:M2 X o "get" apos e f cpos):PE X (.Call (.Attribute o "get" apos) [e,f] [] cpos) (tDGet2 td ty tx):=by
 intro pins s σ H Q I h
 refine wpAny_Call_method m.base m.few m.line PySem.F.plainAttrs_dict PySem.F.slot_dict_get PySem.F.type_dict_get (thn (ho pins s σ H _ I h) fun u s1 ⟨x,H1,I1,rx,a,ex,d,q1⟩=>?_)
 subst ex
 obtain rfl:u=Value.ref a:=rx
 obtain⟨t1,t2,_⟩:=zBC I1 d
 refine⟨t1,t2,?_⟩
 rw[m.trees]
 refine Calls.callWith_builtin rfl (Calls.evalArgs_plain (Calls.spliced_cons (thn (he pins s1 σ H1 _ I1 q1) fun iv s2 ⟨y,H2,I2,ry,q2⟩=>
  Calls.spliced_cons (thn (hf pins s2 σ H2 _ I2 q2) fun fv s3 ⟨z,H3,I3,rz,ov,g,q3⟩=>Calls.spliced_nil ?_))))
 exact zBD hu I3 g ry rz fun w' s4 I4 rw'=>⟨_,H3,I4,rw',q3⟩
end
section
variable {X:Cx}{pins:List (Addr×Obj)}{σ:St}{H:Hp}{s:Shared}{a:Addr}{kvs:List (Key×V)}{A:Around}{E:Value->Shared->Prop}
theorem zzo{Q:Value->Shared->Prop}(I:Inv X pins σ H s)(e:Rd H a (.dK kvs))(h :∀p s',H p=none->Inv X pins σ (upd H p (.dK kvs)) s'->Q (.ref p) s'):wpAny (model X.prog X.w) A (call (.type "dict") [.ref a]) Q E s:=by
 obtain⟨z,hd,vs,rel,dd⟩:=ztB I.hok e
 refine kt_call_dict hd dd (by rw[<-rel.length];exact z) fun h' dd' hs=>?_
 refine h _ _ (I.hok.fresh (nLr _)) (I.laid (a:=s.heap.objs.size) (o:=.dK kvs) (t':=s.toks) (fun b q hq=>?_) (nLr _) (ztS z (beq_eq_false_iff_ne.mpr (Ne.symm (Nat.ne_of_lt I.big))) rel dd'))
 exact(hs.2 b (Nat.ne_of_lt (Heap.lt_size hq))).trans (Heap.get?_push_of_some _ hq)
end
section
variable {X:Cx}{pins:List (Addr×Obj)}{σ:St}{H:Hp}{s:Shared}{h':Heap}
theorem Inv.turnedL{t':Nat}{ch:List Addr}(I:Inv X pins σ H s)(k :∀b o,b∉ch->s.heap.get? b=some o->h'.get? b=some o)(hf :∀b∈ch,FpOk X pins H b):Inv X pins σ H {s with heap:=h',toks:=t'}:=by
 have nit :∀b u,H b=some u->b∉ch:=fun b u e z=>by
  have q:=(hf b z).1
  rw[q]at e;cases e
 refine I.step (g':=s.gens) (d':=s.drawn) (ch:=ch) (fun b hb=>⟨(hf b hb).2.2.2.1,(hf b hb).2.1,(hf b hb).2.2.2.2.1,(hf b hb).2.2.2.2.2⟩) (fun b o _ _ hc e _=>k b o hc e) (fun b o _ _ hc e _=>⟨o.slots,k b o hc e⟩)
  (fun _ _ _ _ n=>n) (fun b o hc e=>⟨o,k b o hc e⟩) (fun _ _ e=>e) (fun _ _ _ e=>e) (fun b ps e=>⟨#[],by rw[e];simp⟩) (fun m hm=>?_) (fun b u e=>?_) I.bare
 ·obtain⟨o,es,ep,ho,r⟩:=hm
  exact⟨o,es,ep,k _ o (fun z=>(hf _ z).2.1 rfl) ho,r⟩
 ·refine(I.hok b u e).stay (fun c v hc q=>k c v ?_ q) (fun _ q=>q) fun _ _ q=>q
  rcases hc with z|z
  ·rw[z];exact nit b u e
  ·exact nit c _ z
theorem Inv.turnedNew{t':Nat}{ch:List Addr}{T:Addr}{ob:HO}(I:Inv X pins σ H s)(k :∀b o,b∉ch->s.heap.get? b=some o->h'.get? b=some o)(hf :∀b∈ch,FpOk X pins H b)(hT:s.heap.objs.size<=T)
  (new:zbr X.prog X.w (upd H T ob) h' T ob):Inv X pins σ (upd H T ob) {s with heap:=h',toks:=t'}:=by
 have hn:H T=none:=I.hok.fresh hT
 have nit :∀b u,H b=some u->b∉ch:=fun b u e z=>by
  have q:=(hf b z).1
  rw[q]at e;cases e
 refine I.step (g':=s.gens) (d':=s.drawn) (ch:=ch) (fun b hb=>⟨(hf b hb).2.2.2.1,(hf b hb).2.1,(hf b hb).2.2.2.2.1,(hf b hb).2.2.2.2.2⟩) (fun b o _ _ hc e _=>k b o hc e) (fun b o _ _ hc e _=>⟨o.slots,k b o hc e⟩)
  (fun b o _ e n=>?_) (fun b o hc e=>⟨o,k b o hc e⟩) (fun b xs e=>?_) (fun b o u e=>?_) (fun b ps e=>⟨#[],?_⟩) (fun m hm=>?_) (fun b u e=>?_) I.bare
 ·rw[zf (Nat.ne_of_lt (Nat.lt_of_lt_of_le (Heap.lt_size e) hT))];exact n
 ·rw[zf (zk e hn)];exact e
 ·rw[zf (zk e hn)];exact e
 ·rw[zf (zk e hn),e];simp
 ·obtain⟨o,es,ep,ho,r⟩:=hm
  exact⟨o,es,ep,k _ o (fun z=>(hf _ z).2.1 rfl) ho,r⟩
 ·by_cases hb:b=T
  ·subst hb
   rw[zd]at e
   cases e
   exact new
  ·rw[zf hb]at e
   refine(I.hok b u e).stay (fun c v hc q=>k c v ?_ q) (fun c q=>by rw[zf (zk q hn)];exact q) fun c xs q=>by rw[zf (zk q hn)];exact q
   rcases hc with z|z
   ·rw[z];exact nit b u e
   ·exact nit c _ z
theorem Inv.lock{d:Addr}{u:HO}(I:Inv X pins σ H s)(h:H d=some u)(mu:Mut (some u)) :∃od,Inv X pins σ (upd H d (.frz od u)) s:=by
 have x:=I.hok d u h
 have ex :∃od,s.heap.get? d=some od:=by
  cases u with
  | lst xs=>obtain⟨_,_,_,_,e⟩:=x;exact⟨_,e⟩
  | dK kvs=>obtain⟨_,_,_,_,o,_,_,e,_⟩:=x;exact⟨o,e⟩
  | dT kvs=>obtain⟨_,_,_,_,o,_,_,e,_⟩:=x;exact⟨o,e⟩
  | set S n=>obtain⟨o,_,_,_,e,_⟩:=x;exact⟨o,e⟩
  | ins C dx fs=>obtain⟨_,_,_,e,_⟩:=x;exact⟨_,e⟩
  | ext φ=>obtain⟨_,⟨_,e⟩,_⟩:=x;exact⟨_,e⟩
  | _=>exact False.elim mu
 obtain⟨od,e⟩:=ex
 have new:zbr X.prog X.w (upd H d (.frz od u)) s.heap d (.frz od u):=by
  refine⟨e,x.stay (fun b v _ q=>q) (fun b q=>?_) fun b xs q=>?_⟩
  ·rw[zf (fun z=>by rw[z,h]at q;cases q;exact mu)];exact q
  ·rw[zf (fun z=>by rw[z,h]at q;cases q;exact mu)];exact q
 exact⟨od,I.write (x:=d) (e:=d) (t':=s.toks) (h':=s.heap) (by rw[h];exact mu) (.inl rfl) (fun b v _ q=>q) ⟨od,e⟩ new⟩
theorem Inv.nofrz{d:Addr}{u:HO}(I:Inv X pins σ H s)(h:H d=some u)(mu:Mut (some u)) :∀o' u',X.H_0 d≠some (.frz o' u'):=fun o' u' e=>by
 have q:=I.base.frzs d o' u' e
 rw[h]at q
 cases q
 exact mu
theorem Inv.unlock{d:Addr}{od:Obj}{u:HO}(I:Inv X pins σ H s)(h:H d=some (.frz od u))(hn :∀o' u',X.H_0 d≠some (.frz o' u')):Inv X pins σ (upd H d u) s:=by
 have neH :∀b o,H b=some o->(∀o' u',o≠.frz o' u')->b≠d:=fun b o e hne z=>by
  rw[z,h]at e
  cases e
  exact hne _ _ rfl
 have neN :∀b,H b=none->b≠d:=fun b e z=>by rw[z,h]at e;cases e
 refine⟨I.ok,I.os,I.bare,⟨I.base.keep,I.base.slot,fun b o e n hx=>?_,I.base.there,fun b xs e=>?_,fun b o x e=>?_,fun b ps e=>?_⟩,I.loc,I.cell,?_,fun x c e=>?_,fun p hp=>?_,fun b o e=>?_,I.len⟩
 ·rw[zf (neN b (I.base.free b o e n hx))];exact I.base.free b o e n hx
 ·have q:=I.base.tups b xs e
  rw[zf (neH b _ q (fun _ _ z=>nomatch z))];exact q
 ·have q:=I.base.frzs b o x e
  rw[zf (fun z=>by rw[z]at e;exact hn _ _ e)];exact q
 ·obtain⟨m,q⟩:=I.base.tbls b ps e
  exact⟨m,by rw[zf (neH b _ q (fun _ _ z=>nomatch z))];exact q⟩
 ·rw[zf (neN _ I.free)];exact I.free
 ·rw[zf (neN c (I.freeC x c e))];exact I.freeC x c e
 ·obtain⟨e,n,r⟩:=I.pin p hp
  exact⟨e,by rw[zf (neN _ n)];exact n,r⟩
 ·by_cases hb:b=d
  ·rw[hb,zd]at e
   cases e
   rw[hb]
   obtain⟨_,x⟩:=I.hok d _ h
   exact x.stay (fun c v _ q=>q) (fun c q=>by rw[zf (neH c _ q (fun _ _ z=>nomatch z))];exact q) fun c xs q=>by rw[zf (neH c _ q (fun _ _ z=>nomatch z))];exact q
  ·rw[zf hb]at e
   exact(I.hok b o e).stay (fun c v _ q=>q) (fun c q=>by rw[zf (neH c _ q (fun _ _ z=>nomatch z))];exact q) fun c xs q=>by rw[zf (neH c _ q (fun _ _ z=>nomatch z))];exact q
end
def tLock(t:TS):TS:=fun D σ H=>E2 fun d u=>H d=some u/\Mut (some u)/\∀od,t ⟨fun σ' H'=>H' d=some (.frz od u)/\D.nx σ' (upd H' d u),fun v H'=>H' d=some (.frz od u)/\D.rt v (upd H' d u),fun σ' H'=>H' d=some (.frz od u)/\D.bk σ' (upd H' d u),fun σ' H'=>H' d=some (.frz od u)/\D.ct σ' (upd H' d u)⟩ σ (upd H d (.frz od u))
section
variable {X:Cx}
theorem zAz{st:Stmt}{t:TS}(h:PS X st t):PS X st (tLock t):=by
 intro pins s σ H D I hw
 obtain⟨d,u,hd,mu,hw⟩:=hw
 obtain⟨od,I1⟩:=I.lock hd mu
 refine thn (h pins s σ _ _ I1 (hw od)) fun f s1 q=>?_
 cases f with
 | next=>obtain⟨σ',H',I2,e,q⟩:=q;exact⟨σ',_,I2.unlock e (I.nofrz hd mu),q⟩
 | brk=>obtain⟨σ',H',I2,e,q⟩:=q;exact⟨σ',_,I2.unlock e (I.nofrz hd mu),q⟩
 | cont=>obtain⟨σ',H',I2,e,q⟩:=q;exact⟨σ',_,I2.unlock e (I.nofrz hd mu),q⟩
 | ret v=>obtain⟨x,σ',H',I2,r,e,q⟩:=q;exact⟨x,σ',_,I2.unlock e (I.nofrz hd mu),r,q⟩
theorem zyo{tg:Expr}{pins:List (Addr×Obj)}{σ:St}{H:Hp}{s:Shared}{R:It->Hp->Prop}{J:It}{tn:Nat->Heap->Prop}{tk:Nat}(I:Inv X pins σ H s)(o:Obj)
  (T:Turn X.prog X.w X.K tg J [s.heap.objs.size] s.heap.objs.size tn) (st:tn 0 (s.heap.push o)) (q:R J H):PIE X pins σ tg R (.ref s.heap.objs.size) {s with heap:=s.heap.push o,toks:=tk}:=by
 refine⟨s.heap.objs.size,[s.heap.objs.size],tn,J,H,rfl,I.kept fun b ob e=>Heap.get?_push_of_some _ e,T,st,fun b hb=>?_,q⟩
 have e:b=s.heap.objs.size:=by simpa using hb
 subst e
 exact I.fpOk (nLr _) (I.hok.fresh (nLr _))
end
def Itc(lo c:Int)(n:Nat):It:=⟨fun i _=>i<n,fun i H x H'=>H'=H/\x=.int (lo+(i:Nat)*c),fun i _=>n<=i⟩
theorem zvu{P:Program}{w:World}{K:Fg}{tg:Expr}(it:Addr)(lo c:Int)(n:Nat):Turn P w K tg (Itc lo c n) [it] it (fun i h=>IsRangeIter h it (lo+(i:Nat)*c) ((n:Int)-(i:Nat)) c) where
 mem:=by simp
 obj:=fun i h st b hb=>by
  have e:b=it:=by simpa using hb
  subst e
  exact⟨_,st,fun v z=>nomatch z⟩
 keep:=fun i h h' st k=>k it (by simp) _ st
 item:=by
  intro X hP hw hK hc i pins s σ H E I hf st hg
  subst hP hw hK
  obtain⟨f0,f1,f2,f3,f4,f5⟩:=hf it (by simp)
  have W:=Walks.range (prog:=X.prog) (w:=X.w) (I.ok.hd hc) it lo c n
  refine W.item i s _ _ hg st fun v h' tk hv st' kk=>?_
  obtain⟨t,rfl⟩:=hv
  have I1:Inv X pins σ H {s with heap:=h',toks:=tk}:=I.turned (fun b o hb e=>kk b o (by simpa using hb) e) f0 f1 f3 f4 f5
  exact⟨_,rfl,zw5 (s:={s with heap:=h',toks:=tk}) (n:="range_iterator") st' rfl rfl (by decide) ⟨.int (lo+(i:Nat)*c),H,I1,⟨t,rfl⟩,⟨rfl,rfl⟩,st',fun b hb=>(hf b hb).1⟩⟩
 done:=by
  intro X hP hw hK hc i pins s σ H E I hf st hg
  subst hP hw hK
  obtain⟨f0,f1,f2,f3,f4,f5⟩:=hf it (by simp)
  exact wpAny_pyNext_range_end (I.ok.hd hc) st (by have:n<=i:=hg;omega) fun h' eb=>⟨rfl,I.turned (t':=s.toks) (fun b o hb e=>eb b o hb e) f0 f1 f3 f4 f5⟩
 self:=fun A i s Q E st h=>wpAny_pyIter_rangeiter st h
def RgC(i j c:Int)(n:Nat):Prop:=c≠0/\c.natAbs<1073741824/\Builtin.Range.small i j c=true/\Builtin.Range.rangeSize i j c=n
def iRng3(ta:TA):TI:=fun σ H R=>ta σ H fun vs H1=>E4 fun(i j c:Int)(n:Nat)=>vs=[.int i,.int j,.int c]/\RgC i j c n/\R (Itc i c n) H1
section
variable {X:Cx}{tg:Expr}
theorem zsd{a b c:Expr}{ta:TA}{p pos:Pos}(hg:Gl X "range") (hm:X.mg "range" = none) (ha:PA X [a,b,c] ta)
  (hs:starEach [a,b,c] X.env=(false,eval a X.env)::starEach [b,c] X.env:=by rfl) (hpl:(backTo pos (starEach [b,c] X.env)).any (·.1)=false:=by rfl) :
  PI X tg (.Call (.Name "range" p) [a,b,c] [] pos) (iRng3 ta):=by
 intro pins s σ H R I h
 refine Call_ (zi2 I hg hm boot_range (PyProof.Rows.callWith_type1 (thn (ha pos pins s σ H _ I h) fun us s1 ⟨vs,H1,I1,r1,q1⟩=>?_) hs hpl))
 obtain⟨i,j,k,n,e,⟨c0,c1,c2,c3⟩,q⟩:=q1
 subst e
 cases r1 with
 | cons r rr=>
  cases rr with
  | cons r' rr=>
   cases rr with
   | cons r'' rr=>
    cases rr
    obtain⟨t,rfl⟩:=r
    obtain⟨t',rfl⟩:=r'
    obtain⟨t'',rfl⟩:=r''
    refine call_range_3 c0 ?_ (.inl (PyProof.noPylong_small c1))
    refine wpAny_pyIter_range (IsRange.new ..) c2 ?_
    have I2:Inv X pins σ H1 {s1 with heap:=s1.heap.push {cls:=.type "range",data:=.fields #[.int i t,.int j t',.int k t'']}}:=I1.kept (t':=s1.toks) fun b o e=>Heap.get?_push_of_some _ e
    refine zyo (tk:=s1.toks) I2 _ (zvu _ i k n) ?_ q
    have e1:i+((0:Nat):Int)*k=i:=by simp
    have e2:(n:Int)-((0:Nat):Int)=Builtin.Range.rangeSize i j k:=by rw[c3];simp
    show IsRangeIter _ _ (i+((0:Nat):Int)*k) ((n:Int)-((0:Nat):Int)) k
    rw[e1,e2]
    exact Heap.get?_push_size _ rfl
end
theorem zp8{lo c:Int}{n:Nat}{g:TG}{tb:TS}{D:Ends}{σ:St}{H:Hp}(Pv:Nat->St->Hp->Prop)(h0:Pv 0 σ H)
  (hs :∀i σ H,i<n->Pv i σ H->g (.int (lo+(i:Nat)*c)) σ H fun σ2 H2=>tb {D with nx:=Pv (i+1),ct:=Pv (i+1),bk:=D.nx} σ2 H2) (hd :∀σ H,Pv n σ H->D.nx σ H) :
  ∃W:Nat->Nat->St->Hp->Prop,(∃m,W 0 m σ H)/\∀i m σ H,W i m σ H->
   ((Itc lo c n).stop i H/\D.nx σ H)\/((Itc lo c n).go i H/\∃N:St->Hp->Prop,(∀σ' H',N σ' H'->∃m',m'<m/\W (i+1) m' σ' H')/\∀x H',(Itc lo c n).yld i H x H'->g x σ H' fun σ2 H2=>tb {D with nx:=N,ct:=N,bk:=D.nx} σ2 H2):=by
 refine⟨fun i m σ H=>m=n-i/\i<=n/\Pv i σ H,⟨n,by simp,Nat.zero_le _,h0⟩,?_⟩
 rintro i m σ H ⟨rfl,hi,p⟩
 by_cases hlt:i<n
 ·refine .inr ⟨hlt,Pv (i+1),fun σ' H' p'=>⟨n-(i+1),by omega,rfl,hlt,p'⟩,fun x H' y=>?_⟩
  obtain⟨e,y⟩:=y
  subst e y
  exact hs i σ _ hlt p
 ·have e:i=n:=by omega
  subst e
  exact .inl ⟨nLr _,hd σ H p⟩
theorem zBE{κ:Type}{kvs:List (κ×V)}{vs:List (κ×Value)}(h:KV kvs vs) :∀{i:Nat} {k:κ} {v:V},kvs[i]? = some (k,v)->∃u,vs[i]? = some (k,u)/\zZ v u:=by
 unfold KV at h
 induction h with
 | nil=>intro i k v e;simp at e
 | @cons a b l₁ l₂ r t ih=>
  intro i k v e
  cases i with
  | zero=>
   simp only[List.getElem?_cons_zero,Option.some.injEq]at e
   subst e
   refine⟨b.2,?_,r.2⟩
   simp only[List.getElem?_cons_zero]
   exact congrArg some (Prod.ext r.1.symm rfl)
  | succ j=>
   simp only[List.getElem?_cons_succ]at e⊢
   exact ih e
theorem zzp{k:Key}{u:Value}(h:keyIs k u=true):zZ (kV k) u:=by
 rcases zci h with⟨i,t,rfl,rfl⟩|⟨x,t,rfl,rfl⟩
 ·exact⟨t,rfl⟩
 ·exact⟨t,rfl⟩
section
variable {X:Cx}{pins:List (Addr×Obj)}{σ:St}{H:Hp}{s:Shared}{d:Addr}{o:Obj}
theorem Inv.frzK{kvs:List (Key×V)}(I:Inv X pins σ H s)(h:H d=some (.frz o (.dK kvs))) :
  (d==sysModules)=false/\s.heap.get? d=some o/\o.ExactDict/\∃(es:Array DictEntry) (ep:Nat) (vs:List (Key×Value)),o.data=.dict es ep/\es.size=kvs.length/\KV kvs vs/\s.heap.DictAt (zbv X.prog X.w) d vs ep:=by
 obtain⟨hd,z,hs,vs,kv,o',es,ep,ho,hx,hdt,r⟩:=I.hok d _ h
 rw[hd]at ho
 cases ho
 refine⟨hs,hd,hx,es,ep,vs,hdt,?_,kv,o,es,hd,hx,hdt,r⟩
 have l1:=r.2.1.length
 have l2:kvs.length=vs.length:=Paired.length kv
 rw[Array.length_toList]at l1
 omega
end
def Iti(d:Addr)(o:Obj)(kvs:List (Key×V)):It:=
 ⟨fun i H=>H d=some (.frz o (.dK kvs))/\i<kvs.length,fun i H x H'=>∃T k v,kvs[i]? = some (k,v)/\x=.ref T/\H T=none/\H'=upd H T (.tup [kV k,v]),fun i H=>H d=some (.frz o (.dK kvs))/\kvs.length<=i⟩
theorem zwF{o:Obj}{es es':Array DictEntry}{ep ep':Nat}(h:o.data=.dict es ep)(h':o.data=.dict es' ep'):es'=es/\ep'=ep:=by
 rw[h]at h'
 cases h'
 exact⟨rfl,rfl⟩
section
variable {P:Program}{w:World}{K:Fg}{tg:Expr}{d:Addr}{o:Obj}{es:Array DictEntry}{ep:Nat}
theorem zxd{kvs:List (Key×V)}{elts:List Expr}{kk:Nat}{tpos:Pos}(it:Addr)(hod:o.data=.dict es ep) :
  Turn P w K (.Tuple elts kk tpos) (Iti d o kvs) [it] it (fun i h=>∃ok ov,IsItemIter h it d i kvs.length ep ok ov) where
 mem:=by simp
 obj:=fun i h st b hb=>by
  have e:b=it:=by simpa using hb
  subst e
  obtain⟨ok,ov,e⟩:=st
  exact⟨_,e,fun v z=>nomatch z⟩
 keep:=fun i h h' st k=>let⟨ok,ov,e⟩:=st;⟨ok,ov,k it (by simp) _ e⟩
 item:=by
  intro X hP hw hK hc i pins s σ H E I hf st hg
  subst hP hw hK
  obtain⟨hd,hi⟩:=hg
  obtain⟨hs,hgd,hx,es',ep',vs,hdt,hsz,kv,hm⟩:=I.frzK hd
  obtain⟨rfl,rfl⟩:=zwF hod hdt
  obtain⟨⟨k,v⟩,hkv⟩ :∃p,kvs[i]? = some p:=⟨kvs[i],gge hi⟩
  obtain⟨u,hu,ru⟩:=zBE kv hkv
  have hl:kvs.length=vs.length:=Paired.length kv
  obtain⟨ok,ov,he⟩:=st
  rw[hl]at he
  have hlt:it<s.heap.objs.size:=Heap.lt_size he
  refine wpAny_pyNext_items_item he hm hu fun key h' hkey ho hT hz hk=>?_
  refine⟨_,rfl,wpAny_letOwnedTupleGo_items (s:={s with heap:=h'}) ho fun h'' he' sb=>?_⟩
  have hT2:h''.get? s.heap.objs.size=some {cls:=.type "tuple",data:=.seq #[key,u]}:=(sb.2 _ (Nat.ne_of_gt hlt)).trans hT
  have new:zbr X.prog X.w (upd H s.heap.objs.size (.tup [kV k,v])) h'' s.heap.objs.size (.tup [kV k,v]):=
   ⟨by show 2<=sizeLine;decide,[key,u],.cons (zzp (show keyIs k key=true from hkey)) (.cons ru .nil),⟨_,hT2,rfl,_,rfl⟩⟩
  have I1:Inv X pins σ (upd H s.heap.objs.size (.tup [kV k,v])) {s with heap:=h''}:=
   I.turnedNew (t':=s.toks) (ch:=[it]) (fun b ob hb e=>(sb.2 b (by simpa using hb)).trans (hk b ob (by simpa using hb) e)) hf (nLr _) new
  refine⟨.ref s.heap.objs.size,_,I1,rfl,⟨_,k,v,hkv,rfl,I.hok.fresh (nLr _),rfl⟩,⟨key,u,?_⟩,fun b hb=>?_⟩
  ·rw[hl];exact he'
  ·have e:b=it:=by simpa using hb
   rw[e,zf (Nat.ne_of_lt hlt)]
   exact(hf it (by simp)).1
 done:=by
  intro X hP hw hK hc i pins s σ H E I hf st hg
  subst hP hw hK
  obtain⟨hd,hi⟩:=hg
  obtain⟨f0,f1,f2,f3,f4,f5⟩:=hf it (by simp)
  obtain⟨hs,hgd,hx,es',ep',vs,hdt,hsz,kv,hm⟩:=I.frzK hd
  obtain⟨rfl,rfl⟩:=zwF hod hdt
  have hl:kvs.length=vs.length:=Paired.length kv
  obtain⟨ok,ov,he⟩:=st
  rw[hl]at he
  exact wpAny_pyNext_items_end (I.ok.hd hc) he hm (List.getElem?_eq_none (by omega)) fun h' eb=>⟨rfl,I.turned (t':=s.toks) (fun b ob hb e=>eb b ob hb e) f0 f1 f3 f4 f5⟩
 self:=fun A i s Q E st h=>let⟨_,_,e⟩:=st;PySem.W.kcp_self e h
end
def iItems(td:TE):TI:=fun σ H R=>td σ H fun x H1=>E3 fun d o kvs=>x=.ref d/\H1 d=some (.frz o (.dK kvs))/\R (Iti d o kvs) H1
section
variable {X:Cx}{tg e:Expr}{td:TE}{apos cpos:Pos}
theorem zzq{elts:List Expr}{kk:Nat}{tpos:Pos}(he:PE X e td)(hbase:attributeBase e "items" X.env (eval e X.env)=eval e X.env:=by rfl) (hline:(apos.endLine==cpos.line)=true:=by rfl) :
  PI X (.Tuple elts kk tpos) (.Call (.Attribute e "items" apos) [] [] cpos) (iItems td):=by
 intro pins s σ H R I h
 refine wpAny_Call_method (T:="dict") (id:="dict.items") hbase rfl hline F.plainAttrs_dict F.slot_dict_items F.type_dict_items (thn (he pins s σ H _ I h) fun u s1 ⟨x,H1,I1,rx,d,o,kvs,ex,hd,q⟩=>?_)
 subst ex
 obtain rfl:u=Value.ref d:=rx
 obtain⟨hs,hgd,hx,es,ep,vs,hdt,hsz,kv,hm⟩:=I1.frzK hd
 have hl:kvs.length=vs.length:=Paired.length kv
 refine⟨hm.dictOf.typeIs,hm.dictOf.mapOf.noDict,?_⟩
 have I2:Inv X pins σ H1 {s1 with heap:=s1.heap.push {cls:=.type "dict_items",data:=.fields #[.ref d]}}:=I1.kept (t':=s1.toks) fun b ob q=>Heap.get?_push_of_some _ q
 have fin:wpAny (model X.prog X.w) X.A (pyIter (.ref s1.heap.objs.size)) (PIE X pins σ (.Tuple elts kk tpos) R) X.xe {s1 with heap:=s1.heap.push {cls:=.type "dict_items",data:=.fields #[.ref d]}}:=by
  refine wpAny_pyIter_items (d:=d) (knd:=zbv X.prog X.w) ⟨_,Heap.get?_push_size _ rfl,rfl,rfl⟩ (hm.push _) (zyo (tk:=s1.toks) I2 _ (zxd _ hdt) ⟨.none,.none,?_⟩ q)
  rw[hl]
  exact Heap.get?_push_size _ rfl
 show wpAny _ _ (callWith cpos (.builtin "dict.items") [.ref d] [] []) _ X.xe s1
 exact method_meetsIn F.slot_dict_items F.entry_dict_items rfl (PySem.evalArgs_none ⟨rfl,hm.dictOf.typeIs,F.args_dict_items_1 _,_,meets_dict_items (zbv X.prog X.w) d hs,⟨vs,hm.dictOf⟩,fin⟩)
end
def Ite(K:Fg)(a:Addr):It:=
 ⟨fun i H=>∃(xs:List V) (x:V),SqL K H a xs/\xs[i]? = some x,fun i H v H'=>∃T x,v=.ref T/\H T=none/\H'=upd H T (.tup [.int (i:Nat),x])/\∀xs,SqL K H a xs->xs[i]? = some x,fun i H=>∃xs:List V,SqL K H a xs/\xs.length<=i⟩
theorem zyp{P:Program}{w:World}{K:Fg}{elts:List Expr}{kk:Nat}{tpos:Pos}(a e it:Addr) :
  Turn P w K (.Tuple elts kk tpos) (Ite K a) [e,it] e (fun i h=>(∃old,IsEnum h e it ((i:Nat):Int) old)/\h.IsListIter it a i/\e≠it) where
 mem:=by simp
 obj:=fun i h st b hb=>by
  obtain⟨⟨old,he⟩,⟨o,ho,hc,hd⟩,_⟩:=st
  have e':b=e\/b=it:=by simpa using hb
  rcases e' with z|z
  ·rw[z];exact⟨_,he,fun v q=>nomatch q⟩
  ·rw[z];exact⟨o,ho,fun v q=>by rw[hd]at q;cases q⟩
 keep:=fun i h h' st k=>let⟨⟨old,he⟩,hi,hne⟩:=st;⟨⟨old,k e (by simp) _ he⟩,hi.at fun o q=>k it (by simp) o q,hne⟩
 item:=by
  intro X hP hw hK hc i pins s σ H E I hf st hg
  subst hP hw hK
  obtain⟨⟨old,he⟩,hit,hne⟩:=st
  obtain⟨xs,x,hq,hx⟩:=hg
  obtain⟨its,rv,p,hz⟩:=I.list hq
  obtain⟨u,hu,ru⟩:=rv.get hx
  have hel:e<s.heap.objs.size:=Heap.lt_size he
  have hil:it<s.heap.objs.size:=by obtain⟨_,q,_⟩:=hit;exact Heap.lt_size q
  refine wpAny_pyNext_enum_item he hit p.isList (x:=u) (by simpa using hu) hne fun h' ho hit' hT hsz hk=>?_
  refine⟨_,rfl,wpAny_letOwnedTupleGo_enum (s:={s with heap:=h',toks:=s.toks+1}) ho fun h'' he' sb=>?_⟩
  have hT2:h''.get? s.heap.objs.size=some {cls:=.type "tuple",data:=.seq #[.int i s.toks,u]}:=(sb.2 _ (Nat.ne_of_gt hel)).trans hT
  have new:zbr X.prog X.w (upd H s.heap.objs.size (.tup [.int (i:Nat),x])) h'' s.heap.objs.size (.tup [.int (i:Nat),x]):=
   ⟨by show 2<=sizeLine;decide,[.int i s.toks,u],.cons ⟨_,rfl⟩ (.cons ru .nil),⟨_,hT2,rfl,_,rfl⟩⟩
  have I1:Inv X pins σ (upd H s.heap.objs.size (.tup [.int (i:Nat),x])) {s with heap:=h'',toks:=s.toks+1}:=
   I.turnedNew (ch:=[e,it]) (fun b ob hb q=>(sb.2 b (fun z=>hb (by simp[z]))).trans (hk b ob (fun z=>hb (by simp[z])) (fun z=>hb (by simp[z])) q)) hf (nLr _) new
  refine⟨.ref s.heap.objs.size,_,I1,rfl,⟨_,x,rfl,I.hok.fresh (nLr _),rfl,fun ys hy=>by rw[I.list_inj hy hq];exact hx⟩,⟨⟨u,?_⟩,hit'.at fun o q=>(sb.2 it (Ne.symm hne)).trans q,hne⟩,fun b hb=>?_⟩
  ·have e1:((i+1:Nat):Int)=(i:Int)+1:=by omega
   rw[e1];exact he'
  ·have hb':b<s.heap.objs.size:=by
    have e':b=e\/b=it:=by simpa using hb
    rcases e' with z|z
    ·rw[z];exact hel
    ·rw[z];exact hil
   rw[zf (Nat.ne_of_lt hb')]
   exact(hf b hb).1
 done:=by
  intro X hP hw hK hc i pins s σ H E I hf st hg
  subst hP hw hK
  obtain⟨⟨old,he⟩,hit,hne⟩:=st
  obtain⟨xs,hq,hx⟩:=hg
  obtain⟨its,rv,p,hz⟩:=I.list hq
  obtain⟨f0,f1,f2,f3,f4,f5⟩:=hf it (by simp)
  have hl:=rv.length
  exact wpAny_pyNext_enum_end (I.ok.hd hc) he hit p.isList (by simp;omega) fun h' eb=>⟨rfl,I.turned (t':=s.toks) (fun b o hb q=>eb b o hb q) f0 f1 f3 f4 f5⟩
 self:=fun A i s Q E st h=>let⟨⟨_,he⟩,_⟩:=st;wpAny_pyIter_enum he h
def iEnum(K:Fg)(ta:TA):TI:=fun σ H R=>ta σ H fun vs H1=>E2 fun a xs=>vs=[.ref a]/\SqL K H1 a xs/\R (Ite K a) H1
theorem zAA{X:Cx}{e:Expr}{ta:TA}{p pos tpos:Pos}{elts:List Expr}{kk:Nat}(hg:Gl X "enumerate") (hm:X.mg "enumerate" = none) (ha:PA X [e] ta) (hs:starEach [e] X.env=[(false,eval e X.env)]:=by rfl) :
  PI X (.Tuple elts kk tpos) (.Call (.Name "enumerate" p) [e] [] pos) (iEnum X.K ta):=by
 intro pins s σ H R I h
 refine Call_ (zi2 I hg hm boot_enumerate (PyProof.Rows.callWith_type1 (thn (ha pos pins s σ H _ I h) fun us s1 ⟨vs,H1,I1,r1,q1⟩=>?_) hs rfl))
 obtain⟨a,xs,ex,hq,q⟩:=q1
 subst ex
 cases r1 with
 | cons r rr=>
  cases rr
  cases r
  obtain⟨its,rv,p',hz⟩:=I1.list hq
  refine call_enumerate_list p'.isList fun h' he hit hsz hk=>wpAny_pyIter_enum he ?_
  have I2:Inv X pins σ H1 {s1 with heap:=h'}:=I1.kept (t':=s1.toks) hk
  refine⟨s1.heap.objs.size+1,[s1.heap.objs.size+1,s1.heap.objs.size],_,_,H1,rfl,I2,zyp a (s1.heap.objs.size+1) s1.heap.objs.size,⟨⟨.none,he⟩,hit,Nat.succ_ne_self _⟩,fun b hb=>?_,q⟩
  have e':b=s1.heap.objs.size+1\/b=s1.heap.objs.size:=by simpa using hb
  have hle:s1.heap.objs.size<=b:=by
   rcases e' with z|z
   ·rw[z];exact Nat.le_add_right _ _
   ·rw[z];exact nLr _
  exact I1.fpOk hle (I1.hok.fresh hle)
theorem zyq:bootBuiltins "zip" = some (.type "zip"):=by decide +kernel
def Itz(K:Fg)(a b:Addr):It:=
 ⟨fun i H=>∃(xs ys:List V) (x y:V),SqL K H a xs/\SqL K H b ys/\xs[i]? = some x/\ys[i]? = some y,
  fun i H v H'=>∃T x y,v=.ref T/\H T=none/\H'=upd H T (.tup [x,y])/\(∀xs,SqL K H a xs->xs[i]? = some x)/\∀ys,SqL K H b ys->ys[i]? = some y,
  fun i H=>∃xs ys:List V,SqL K H a xs/\SqL K H b ys/\(xs.length<=i\/ys.length<=i)⟩
theorem zzr{P:Program}{w:World}{K:Fg}{elts:List Expr}{kk:Nat}{tpos:Pos}{a b z TI TO i1 i2:Addr}(D:ZipApart z TI TO i1 i2 a b) :
  Turn P w K (.Tuple elts kk tpos) (Itz K a b) [z,TI,TO,i1,i2] z (fun i h=>IsZip h z TI TO .none/\IsPair h TI (.ref i1) (.ref i2)/\(∃x y,IsPair h TO x y)/\h.IsListIter i1 a i/\h.IsListIter i2 b i) where
 mem:=by simp
 obj:=fun i h st c hc=>by
  obtain⟨hz,hTI,⟨x,y,hTO⟩,⟨o1,e1,_,d1⟩,⟨o2,e2,_,d2⟩⟩:=st
  have e':c=z\/c=TI\/c=TO\/c=i1\/c=i2:=by simpa using hc
  rcases e' with q|q|q|q|q
  ·rw[q];exact⟨_,hz,fun v q=>nomatch q⟩
  ·rw[q];exact⟨_,hTI,fun v q=>nomatch q⟩
  ·rw[q];exact⟨_,hTO,fun v q=>nomatch q⟩
  ·rw[q];exact⟨o1,e1,fun v q=>by rw[d1]at q;cases q⟩
  ·rw[q];exact⟨o2,e2,fun v q=>by rw[d2]at q;cases q⟩
 keep:=fun i h h' st k=>by
  obtain⟨hz,hTI,⟨x,y,hTO⟩,h1,h2⟩:=st
  exact⟨k z (by simp) _ hz,k TI (by simp) _ hTI,⟨x,y,k TO (by simp) _ hTO⟩,h1.at fun o q=>k i1 (by simp) o q,h2.at fun o q=>k i2 (by simp) o q⟩
 item:=by
  intro X hP hw hK hc i pins s σ H E I hf st hg
  subst hP hw hK
  obtain⟨hz,hTI,⟨x0,y0,hTO⟩,h1,h2⟩:=st
  obtain⟨xs,ys,x,y,hqx,hqy,hx,hy⟩:=hg
  obtain⟨its,rv,p,_⟩:=I.list hqx
  obtain⟨its2,rv2,p2,_⟩:=I.list hqy
  obtain⟨u,hu,ru⟩:=rv.get hx
  obtain⟨u2,hu2,ru2⟩:=rv2.get hy
  have hzl:z<s.heap.objs.size:=Heap.lt_size hz
  refine wpAny_pyNext_zip_item D hz hTI hTO h1 h2 p.isList p2.isList (x:=u) (y:=u2) (by simpa using hu) (by simpa using hu2) fun h' z' TO' h1' h2' hT hsz hk=>?_
  refine⟨_,rfl,wpAny_letOwnedTupleGo_zip (s:={s with heap:=h'}) z' fun h'' z'' sb=>?_⟩
  have hT2:h''.get? s.heap.objs.size=some {cls:=.type "tuple",data:=.seq #[u,u2]}:=(sb.2 _ (Nat.ne_of_gt hzl)).trans hT
  have new:zbr X.prog X.w (upd H s.heap.objs.size (.tup [x,y])) h'' s.heap.objs.size (.tup [x,y]):=
   ⟨by show 2<=sizeLine;decide,[u,u2],.cons ru (.cons ru2 .nil),⟨_,hT2,rfl,_,rfl⟩⟩
  have I1:Inv X pins σ (upd H s.heap.objs.size (.tup [x,y])) {s with heap:=h''}:=
   I.turnedNew (t':=s.toks) (ch:=[z,TI,TO,i1,i2]) (fun c o hb q=>(sb.2 c (fun q'=>hb (by simp[q']))).trans (hk c o (fun q'=>hb (by simp[q'])) (fun q'=>hb (by simp[q'])) (fun q'=>hb (by simp[q'])) (fun q'=>hb (by simp[q'])) q)) hf (nLr _) new
  refine⟨.ref s.heap.objs.size,_,I1,rfl,⟨_,x,y,rfl,I.hok.fresh (nLr _),rfl,fun l hl=>by rw[I.list_inj hl hqx];exact hx,fun l hl=>by rw[I.list_inj hl hqy];exact hy⟩,⟨z'',?_,⟨u,u2,?_⟩,?_,?_⟩,fun c hcm=>?_⟩
  ·exact(sb.2 _ D.TIz).trans (hk _ _ D.TIz D.TITO D.TIi1 D.TIi2 hTI)
  ·exact(sb.2 _ D.TOz).trans TO'
  ·exact h1'.at fun o q=>(sb.2 _ D.i1z).trans q
  ·exact h2'.at fun o q=>(sb.2 _ D.i2z).trans q
  ·have hlt:c<s.heap.objs.size:=by
    have e':c=z\/c=TI\/c=TO\/c=i1\/c=i2:=by simpa using hcm
    rcases e' with q|q|q|q|q
    ·rw[q];exact hzl
    ·rw[q];exact Heap.lt_size hTI
    ·rw[q];exact Heap.lt_size hTO
    ·rw[q];obtain⟨_,e1,_⟩:=h1;exact Heap.lt_size e1
    ·rw[q];obtain⟨_,e2,_⟩:=h2;exact Heap.lt_size e2
   rw[zf (Nat.ne_of_lt hlt)]
   exact(hf c hcm).1
 done:=by
  intro X hP hw hK hc i pins s σ H E I hf st hg
  subst hP hw hK
  obtain⟨hz,hTI,⟨x0,y0,hTO⟩,h1,h2⟩:=st
  obtain⟨xs,ys,hqx,hqy,hend⟩:=hg
  obtain⟨its,rv,p,_⟩:=I.list hqx
  obtain⟨its2,rv2,p2,_⟩:=I.list hqy
  have l1:=rv.length
  have l2:=rv2.length
  have he:its.toArray[i]? = none\/its2.toArray[i]? = none:=by
   rcases hend with q|q
   ·exact .inl (by simp;omega)
   ·exact .inr (by simp;omega)
  exact wpAny_pyNext_zip_end (I.ok.hd hc) D hz hTI hTO h1 h2 p.isList p2.isList he fun h' hk=>⟨rfl,I.turnedL (t':=s.toks) (ch:=[z,TI,TO,i1,i2]) (fun c o hb q=>
   hk c o (fun q'=>hb (by simp[q'])) (fun q'=>hb (by simp[q'])) (fun q'=>hb (by simp[q'])) (fun q'=>hb (by simp[q'])) q) hf⟩
 self:=fun A i s Q E st h=>wpAny_pyIter_zip st.1 h
def iZip(K:Fg)(ta:TA):TI:=fun σ H R=>ta σ H fun vs H1=>E4 fun a b xs ys=>vs=[.ref a,.ref b]/\SqL K H1 a xs/\SqL K H1 b ys/\R (Itz K a b) H1
theorem zm4{X:Cx}{e e2:Expr}{ta:TA}{p pos tpos:Pos}{elts:List Expr}{kk:Nat}(hg:Gl X "zip") (hm:X.mg "zip" = none) (ha:PA X [e,e2] ta)
  (hs:starEach [e,e2] X.env=(false,eval e X.env)::starEach [e2] X.env:=by rfl) (hpl:(backTo pos (starEach [e2] X.env)).any (·.1)=false:=by rfl) :
  PI X (.Tuple elts kk tpos) (.Call (.Name "zip" p) [e,e2] [] pos) (iZip X.K ta):=by
 intro pins s σ H R I h
 refine Call_ (zi2 I hg hm zyq (PyProof.Rows.callWith_type1 (thn (ha pos pins s σ H _ I h) fun us s1 ⟨vs,H1,I1,r1,q1⟩=>?_) hs hpl))
 obtain⟨a,b,xs,ys,ex,hqx,hqy,q⟩:=q1
 subst ex
 cases r1 with
 | cons r rr=>
  cases rr with
  | cons r' rr=>
   cases rr
   cases r
   cases r'
   obtain⟨its,rv,p1,_⟩:=I1.list hqx
   obtain⟨its2,rv2,p2,_⟩:=I1.list hqy
   have la:a<s1.heap.objs.size:=p1.lt
   have lb:b<s1.heap.objs.size:=p2.lt
   refine call_zip_2 p1.isList p2.isList fun h' hz hTI hTO h1 h2 hsz hk=>wpAny_pyIter_zip hz ?_
   have I2:Inv X pins σ H1 {s1 with heap:=h'}:=I1.kept (t':=s1.toks) hk
   refine⟨s1.heap.objs.size+4,[s1.heap.objs.size+4,s1.heap.objs.size+2,s1.heap.objs.size+3,s1.heap.objs.size,s1.heap.objs.size+1],_,_,H1,rfl,I2,zzr (PySem.W.ktu_apart s1.heap.objs.size a b la lb),⟨hz,hTI,⟨_,_,hTO⟩,h1,h2⟩,fun c hcm=>?_,q⟩
   have e':c=s1.heap.objs.size+4\/c=s1.heap.objs.size+2\/c=s1.heap.objs.size+3\/c=s1.heap.objs.size\/c=s1.heap.objs.size+1:=by simpa using hcm
   have hle:s1.heap.objs.size<=c:=by
    rcases e' with z|z|z|z|z
    ·rw[z];exact Nat.le_add_right _ _
    ·rw[z];exact Nat.le_add_right _ _
    ·rw[z];exact Nat.le_add_right _ _
    ·rw[z];exact nLr _
    ·rw[z];exact Nat.le_add_right _ _
   exact I1.fpOk hle (I1.hok.fresh hle)
abbrev KOf{K:Fg}{h:Heap}(_:K.In h):Fg:=K
def zX(s:Stmt)(j:Nat):Stmt:=match s with
 | .ClassDef _ _ _ body _ _ _ _ _ _ _=>body.getD j (.Pass ⟨0,0,0,0⟩)
 | _=>.Pass ⟨0,0,0,0⟩
def zk0(s:Stmt):Arguments:=match s with
 | .FunctionDef _ a _ _ _ _ _ _ _ _=>a
 | _=>{posonlyargs:=[],args:=[],vararg:=none,kwonlyargs:=[],kw_defaults:=[],kwarg:=none,defaults:=[]}
def ziW(s:Stmt):List Stmt:=match s with
 | .FunctionDef _ _ b _ _ _ _ _ _ _=>b
 | _=>[]
def zm(s:Stmt):Scope:=match s with
 | .FunctionDef _ _ _ _ _ _ sc _ _ _=>sc
 | _=>{kind:=.function,names:=[],isGenerator:=false,isCoroutine:=false}
abbrev CX0:CXT:=fun _ _ _ _ _ _=>False
abbrev E0:XK:=fun _ _ _=>False
theorem zj{X:Cx}:zhK CX0 X E0:=fun _ _ _ _ _ _ _ h=>h.elim
structure Fun(K:Fg)(x qual:Str)(st:Stmt)(f:Addr)(fd:FuncData):Prop where
 ex :∃(oc:Value) (od:Option Addr) (kV doc pm:Value) (an:Option Addr) (cdv ct:Value) (osl:Array (Option Value)),
  fd=PySem.W.fnOf x qual (zk0 st) (ziW st) (zm st) .none kV doc pm an cdv ct/\K.lookup f=some ⟨oc,od,.func fd,osl⟩/\PySem.W.codeIn K cdv qual=true
 kp:PySem.W.keepIn K (.ref f)=true
section
variable {P:Program}{w:World}{K:Fg}{mg:Str->Option Value}{base:Heap}
theorem Fun.ok{x qual:Str}{st:Stmt}{f:Addr}{fd:FuncData}{N ps:List Str}{k:Nat}{sp:Sp}(F:Fun K x qual st f fd)(S:zx N ps (zm st))(len :∀vs H Q E,sp vs H Q E->vs.length=ps.length)
  (hbody :∀(cdv:Value) (A:Around) (outer:List Env) (s:Shared) (H:Hp) (vs:List V) (Q:VK) (E:XK),zcj k (A.deeper (envOfC qual (zm st) s.heap.objs.size f cdv))->sp vs H Q E->
   ∃t,PSs (cxOf CX0 P w K mg base N qual (zm st) f cdv A outer s H E).nox (ziW st) t/\t {nx:=fun _ H'=>Q .non H',rt:=Q} (start N vs) H):zH P w K mg base CX0 (k+1) f fd ps sp:=by
 obtain⟨oc,od,kV,doc,pm,an,cdv,ct,osl,rfl,lk,hcd⟩:=F.ex
 refine zCa lk hcd S len fun A outer s H vs Q E hr hsp=>?_
 obtain⟨t,h,q⟩:=hbody cdv A outer s H vs Q E hr hsp
 exact⟨t,h.nox,q⟩
theorem Fun.binds{x qual:Str}{st:Stmt}{f:Addr}{fd:FuncData}{ps:List Str}(F:Fun K x qual st f fd)
  (h :∀(kV doc pm:Value) (an:Option Addr) (cdv ct:Value) (us:List Value),us.length=ps.length->bindArgs (PySem.W.fnOf x qual (zk0 st) (ziW st) (zm st) .none kV doc pm an cdv ct) ⟨us,[]⟩=pure (ps.zip us)):zE K fd ps []:=by
 obtain⟨oc,od,kV,doc,pm,an,cdv,ct,osl,rfl,lk,hcd⟩:=F.ex
 exact .all (h kV doc pm an cdv ct)
theorem Fun.b1{x q:Str}{s:Stmt}{f:Addr}{fd:FuncData}{a:Str}(F:Fun K x q s f fd)(o:∀g h i j k l u,bindArgs (PySem.W.fnOf x q (zk0 s) (ziW s) (zm s) .none g h i j k l) ⟨[u],[]⟩=pure ([a].zip [u])):zE K fd [a] []:=F.binds fun g h i j k l us e=>match us,e with|[_],_=>o g h i j k l _
theorem Fun.b2{x q:Str}{s:Stmt}{f:Addr}{fd:FuncData}{a b:Str}(F:Fun K x q s f fd)(o:∀g h i j k l u v,bindArgs (PySem.W.fnOf x q (zk0 s) (ziW s) (zm s) .none g h i j k l) ⟨[u,v],[]⟩=pure ([a,b].zip [u,v])):zE K fd [a,b] []:=F.binds fun g h i j k l us e=>match us,e with|[_,_],_=>o g h i j k l _ _
theorem Fun.b3{x q:Str}{s:Stmt}{f:Addr}{fd:FuncData}{a b c:Str}(F:Fun K x q s f fd)(o:∀g h i j k l u v y,bindArgs (PySem.W.fnOf x q (zk0 s) (ziW s) (zm s) .none g h i j k l) ⟨[u,v,y],[]⟩=pure ([a,b,c].zip [u,v,y])):zE K fd [a,b,c] []:=F.binds fun g h i j k l us e=>match us,e with|[_,_,_],_=>o g h i j k l _ _ _
theorem Fun.b4{x q:Str}{s:Stmt}{f:Addr}{fd:FuncData}{a b c d:Str}(F:Fun K x q s f fd)(o:∀g h i j k l u v y z,bindArgs (PySem.W.fnOf x q (zk0 s) (ziW s) (zm s) .none g h i j k l) ⟨[u,v,y,z],[]⟩=pure ([a,b,c,d].zip [u,v,y,z])):zE K fd [a,b,c,d] []:=F.binds fun g h i j k l us e=>match us,e with|[_,_,_,_],_=>o g h i j k l _ _ _ _
theorem Fun.b5{x q:Str}{s:Stmt}{f:Addr}{fd:FuncData}{a b c d e:Str}(F:Fun K x q s f fd)(o:∀g h i j k l u v y z t,bindArgs (PySem.W.fnOf x q (zk0 s) (ziW s) (zm s) .none g h i j k l) ⟨[u,v,y,z,t],[]⟩=pure ([a,b,c,d,e].zip [u,v,y,z,t])):zE K fd [a,b,c,d,e] []:=F.binds fun g h i j k l us e=>match us,e with|[_,_,_,_,_],_=>o g h i j k l _ _ _ _ _
theorem zBF{x qual:Str}{st:Stmt}{f:Addr}{oc:Value}{od an:Option Addr}{osl:Array (Option Value)}{kV doc pm cdv ct:Value}(l:K.lookup f=some ⟨oc,od,.func (PySem.W.fnOf x qual (zk0 st) (ziW st) (zm st) .none kV doc pm an cdv ct),osl⟩)
  (c:PySem.W.codeIn K cdv qual=true) (k:PySem.W.keepIn K (.ref f)=true):Fun K x qual st f (PySem.W.fnOf x qual (zk0 st) (ziW st) (zm st) .none kV doc pm an cdv ct):=⟨⟨oc,od,kV,doc,pm,an,cdv,ct,osl,rfl,l,c⟩,k⟩
end
theorem zAi{A:Around}{k:Nat}(hr:zcj k A):A.units+1<cLine:=Nat.lt_of_le_of_lt (Nat.add_le_add_left (by decide:1<=64) _) hr.units
theorem zbe{n:Nat}(h:n<=1000):n<sizeLine:=Nat.lt_of_le_of_lt h (by decide)
section
variable {X:Cx}
theorem pv(i:Nat){x:Str}{pos:Pos}(hN:X.N[i]? = some x:=by rfl)(hv:Vis X.env.scope x:=by first|exact Or.inl rfl|exact Or.inr (Or.inl rfl)|exact Or.inr (Or.inr rfl))(hd:(x==("__debug__" : Str))=false:=by decide)
  (hcd:(x==("__classdict__" : Str))=false:=by decide):PE X (.Name x pos) (zbd i):=zBt hN hv hd hcd
end
theorem zaT{A B:Prop}(h:B):if false=true then A else B:=by
 rw[if_neg bFt]
 exact h
theorem zaY{A B:Prop}(h:A):if true=true then A else B:=by
 rw[if_pos rfl]
 exact h
theorem zaZ{c A B:Prop}[Decidable c](h1:c->A)(h2:¬c->B):if c then A else B:=by
 by_cases h:c
 ·rw[if_pos h]
  exact h1 h
 ·rw[if_neg h]
  exact h2 h
def zQG(X:Cx)(r:List Stmt)(N:St->Hp->Prop)(Q:VK)(F:(St->Hp->Prop)->Prop):Prop:=∃t,PSs X r t/\let R:=t {nx:=N,rt:=Q};F R
section
variable {X:Cx}{s:Stmt}{r:List Stmt}{t u:TS}{N:St->Hp->Prop}{Q:VK}{F:(St->Hp->Prop)->Prop}{σ:St}{H:Hp}
theorem zQl(h:PSs X r t)(k:let R:=t {nx:=N,rt:=Q};F R):zQG X r N Q F:=⟨t,h,k⟩
theorem zQc(h:PS X s t)(k:zQG X r N Q fun R=>let R:=t {nx:=R,rt:=Q};F R):zQG X (s::r) N Q F:=k.elim fun _ k=>⟨_,ze h k.1,k.2⟩
theorem zQa(h:PS X s t)(k:zQG X r N Q fun R=>t {nx:=R,rt:=Q} σ H):∃t,PSs X (s::r) t/\t {nx:=N,rt:=Q} σ H:=k.elim fun _ k=>⟨_,ze h k.1,k.2⟩
end
def zq(H H':Hp):Prop:=∀b o,H b=some o->H' b=some o
theorem zq.refl(H:Hp):zq H H:=fun _ _ h=>h
theorem zq.trans{H H1 H2:Hp}(a:zq H H1)(b:zq H1 H2):zq H H2:=fun c o h=>b c o (a c o h)
theorem zq.free{H H':Hp}(e:zq H H'){l:Addr}(h:H' l=Option.none):H l=Option.none:=by
 cases q:H l with
 | none=>rfl
 | some o=>
  rw[e l o q]at h
  cases h
theorem zq.seq{K:Fg}{H H':Hp}{a:Addr}{xs:List V}(e:zq H H')(h:SqL K H a xs):SqL K H' a xs:=by
 rcases h with(h|⟨o,h⟩)|h
 ·exact .inl (.inl (e _ _ h))
 ·exact .inl (.inr ⟨o,e _ _ h⟩)
 ·exact .inr h
theorem zei{xs:List V}{z:Int}{j:Nat}{v:V}(e:z=(j:Int))(h:xs[j]? = some v):atI xs z=some v:=by
 rw[e]
 exact zb8 h
end L2
section
namespace L2
open PySem PySem.Spec PyProof.Rows
open PySem.W (WData Codec OpenSpec Well WellAll ReadsW ReadsAllW)
mutual
inductive Dw(K:Fg)(H:Hp):V->WData->Prop
 | non:Dw K H .non .none
 | bl (b:Bool):Dw K H (.bl b) (.bool b)
 | int (i:Int):Dw K H (.int i) (.int i)
 | str (x:Str):Dw K H (.str x) (.str x)
 | byt (b:Array UInt8):Dw K H (.byt b) (.bytes b.toList)
 | lst {a:Addr} {xs:List V} {ds:List WData}:SqL K H a xs->zfS K H xs ds->Dw K H (.ref a) (.list ds)
 | tup {a:Addr} {xs:List V} {ds:List WData}:SqT K H a xs->zfS K H xs ds->Dw K H (.ref a) (.tuple ds)
inductive zfS(K:Fg)(H:Hp):List V->List WData->Prop
 | nil:zfS K H [] []
 | cons {v:V} {vs:List V} {d:WData} {ds:List WData}:Dw K H v d->zfS K H vs ds->zfS K H (v::vs) (d::ds)
end
theorem zwG{K:Fg}{H:Hp} :∀ns:List Int,zfS K H (ns.map V.int) (ns.map WData.int)
 | []=>.nil
 | n::r=>.cons (.int n) (zwG r)
theorem zwH{K:Fg}{H:Hp} :∀(ns:List Int) (xs:List V),zfS K H xs (ns.map WData.int)->xs=ns.map V.int
 | [],xs,h=>by
  cases h
  rfl
 | n::r,xs,h=>by
  cases h with
  | cons h1 h2=>
   cases h1
   rw[zwH r _ h2]<;>rfl
section
variable {P:Program}{w:World}{K:Fg}{H:Hp}{h:Heap}{R:PySem.W.WRecords}{cl:Str->Option Addr}
theorem zBG{a:Addr}{xs:List V}(hok:HOk P w H h)(KX:K.In h)(q:SqL K H a xs) :∃(its:List Value) (o:Obj) (n:Nat),zQ xs its/\h.get? a=some o/\o.cls=.type "list"/\o.data=.seq its.toArray n:=by
 rcases q with q|⟨o,its,n,e,hc,_,hd,_,hv⟩
 ·obtain⟨_,its,n,hv,e⟩:=(show zbr P w H h a (.lst xs)from q.ok hok)
  exact⟨its,_,n,hv,e,rfl,rfl⟩
 ·exact⟨its.toList,o,n,hv,KX _ _ e,hc,by simp[hd]⟩
theorem zBH{a:Addr}{xs:List V}(hok:HOk P w H h)(KX:K.In h)(q:SqT K H a xs) :∃(its:List Value) (o:Obj) (n:Nat),zQ xs its/\h.get? a=some o/\o.cls=.type "tuple"/\o.data=.seq its.toArray n:=by
 rcases q with q|⟨o,its,n,e,hc,hd,_,hv⟩
 ·obtain⟨_,its,hv,o,e,hc,n,hd⟩:=(show zbr P w H h a (.tup xs)from q.ok hok)
  exact⟨its,o,n,hv,e,hc,hd⟩
 ·exact⟨its.toList,o,n,hv,KX _ _ e,hc,by simp[hd]⟩
mutual
theorem Dw.reads(hok:HOk P w H h)(KX:K.In h) :∀(d:WData) (v:V) (u:Value),Dw K H v d->zZ v u->∃as,ReadsW R cl h u d as
 | .none,_,_,x,r=>by
  cases x
  cases r
  exact⟨_,ReadsW.none⟩
 | .bool b,_,_,x,r=>by
  cases x
  cases r
  exact⟨_,ReadsW.bool b⟩
 | .int i,_,_,x,r=>by
  cases x
  obtain⟨t,rfl⟩:=r
  exact⟨_,ReadsW.int i t⟩
 | .str s,_,_,x,r=>by
  cases x
  obtain⟨t,rfl⟩:=r
  exact⟨_,ReadsW.str s t⟩
 | .bytes b,_,_,x,r=>by
  cases x
  obtain⟨t,rfl⟩:=r
  exact⟨_,ReadsW.bytes _ t⟩
 | .list ds,_,_,x,r=>by
  cases x with
  | lst hs ha=>
   cases r
   obtain⟨its,o,n,rv,ho,hc,hd⟩:=zBG hok KX hs
   obtain⟨as,hr⟩:=Dw.readsAll hok KX ds _ its ha rv
   exact⟨_,ReadsW.list ho hc hd hr⟩
 | .tuple ds,_,_,x,r=>by
  cases x with
  | tup hs ha=>
   cases r
   obtain⟨its,o,n,rv,ho,hc,hd⟩:=zBH hok KX hs
   obtain⟨as,hr⟩:=Dw.readsAll hok KX ds _ its ha rv
   exact⟨_,ReadsW.tuple ho hc hd hr⟩
 | .float _,_,_,x,_=>by cases x
 | .dict _,_,_,x,_=>by cases x
 | .bytearray _,_,_,x,_=>by cases x
 | .set _,_,_,x,_=>by cases x
 | .frozenset _,_,_,x,_=>by cases x
 | .obj _ _,_,_,x,_=>by cases x
theorem Dw.readsAll(hok:HOk P w H h)(KX:K.In h) :∀(ds:List WData) (vs:List V) (us:List Value),zfS K H vs ds->zQ vs us->∃as,ReadsAllW R cl h us ds as
 | [],_,_,x,r=>by
  cases x
  cases r
  exact⟨_,ReadsAllW.nil⟩
 | d::ds,_,_,x,r=>by
  cases x with
  | cons h1 h2=>
   cases r with
   | cons r1 r2=>
    obtain⟨as,q1⟩:=Dw.reads hok KX d _ _ h1 r1
    obtain⟨bs,q2⟩:=Dw.readsAll hok KX ds _ _ h2 r2
    exact⟨_,ReadsAllW.cons q1 q2⟩
end
end
mutual
def plW:WData->Bool
 | .none=>true
 | .bool _=>true
 | .int _=>true
 | .str _=>true
 | .bytes _=>true
 | .list xs=>plWs xs
 | .tuple xs=>plWs xs
 | _=>false
def plWs:List WData->Bool
 | []=>true
 | x::r=>plW x&&plWs r
end
theorem ztT{α:Type}{f:α->WData}(h :∀a,plW (f a)=true) :∀l:List α,plWs (l.map f)=true
 | []=>rfl
 | x::r=>by
  show(plW (f x)&&plWs (r.map f))=true
  rw[h x,ztT h r]<;>rfl
theorem zhM :∀(c:Codec) (a:c.denote),plW (c.enc a)=true
 | .unit,_=>rfl
 | .bool,_=>rfl
 | .int _ _,_=>rfl
 | .nat _ _,_=>rfl
 | .u8,_=>rfl
 | .bytes _ _,_=>rfl
 | .text _ _ _ _,_=>rfl
 | .list _ _ c,a=>ztT (fun x=>zhM c x) a
 | .pair c d,a=>by
  show(plW (c.enc a.1)&&(plW (d.enc a.2)&&true))=true
  rw[zhM c a.1,zhM d a.2]<;>rfl
 | .triple c d e,a=>by
  show(plW (c.enc a.1)&&(plW (d.enc a.2.1)&&(plW (e.enc a.2.2)&&true)))=true
  rw[zhM c a.1,zhM d a.2.1,zhM e a.2.2]<;>rfl
 | .option c,none=>rfl
 | .option c,some x=>zhM c x
theorem zse :∀(cs:List Codec) (a:Codec.denoteAll cs),plWs (Codec.encAll cs a)=true
 | [],_=>rfl
 | c::cs,a=>by
  show(plW (c.enc a.1)&&plWs (Codec.encAll cs a.2))=true
  rw[zhM c a.1,zse cs a.2]<;>rfl
theorem zlL :∀{xs:List WData} {d:WData},d∈xs->d.weight<=WData.weightAll xs
 | [],d,h=>absurd h (by simp)
 | x::r,d,h=>by
  show d.weight<=x.weight+1+WData.weightAll r
  rcases List.mem_cons.mp h with e|m
  ·rw[e]
   omega
  ·have z:=zlL m
   omega
def toV:Value->V
 | .none=>.non
 | .bool b=>.bl b
 | .int i _=>.int i
 | .str x _=>.str x
 | .bytes b _=>.byt b
 | .ref a=>.ref a
 | _=>.non
def OkU(A:List Addr):Value->Prop
 | .none=>True
 | .bool _=>True
 | .int _ _=>True
 | .str _ _=>True
 | .bytes _ _=>True
 | .ref a=>a∈A
 | _=>False
theorem OkU.mono{A B:List Addr}(h :∀a∈A,a∈B) :∀{u:Value},OkU A u->OkU B u:=fun {u} x=>by
 cases u with
 | ref a=>exact h a x
 | none=>trivial
 | bool b=>trivial
 | int i t=>trivial
 | str s t=>trivial
 | bytes b t=>trivial
 | _=>exact False.elim x
theorem zzs{A:List Addr}{u:Value}(x:OkU A u):zZ (toV u) u:=by
 cases u with
 | ref a=>rfl
 | none=>rfl
 | bool b=>rfl
 | int i t=>exact⟨t,rfl⟩
 | str s t=>exact⟨t,rfl⟩
 | bytes b t=>exact⟨t,rfl⟩
 | _=>exact False.elim x
theorem zg6{A:List Addr} :∀{vs:List Value},(∀u∈vs,OkU A u)->zQ (vs.map toV) vs
 | [],_=>.nil
 | u::r,h=>.cons (zzs (h u (lMs ..))) (zg6 fun x hx=>h x (lMc _ hx))
def zfT(h:Heap)(A:List Addr)(a:Addr):Prop:=∃vs:List Value,vs.length<=sizeLine/\(∀u∈vs,OkU A u)/\
 (h.get? a=some {cls:=.type "list",data:=.seq vs.toArray}\/h.get? a=some {cls:=.type "tuple",data:=.seq vs.toArray})
theorem zfT.mono{h:Heap}{A B:List Addr}{a:Addr}(k :∀a∈A,a∈B)(x:zfT h A a):zfT h B a:=by
 obtain⟨vs,h1,h2,h3⟩:=x
 exact⟨vs,h1,fun u hu=>(h2 u hu).mono k,h3⟩
theorem zhy{P:Params}{h:Heap} :∀{vs:List Value} {ds:List WData},WellAll P h vs ds->vs.length=ds.length
 | _,_,.nil=>rfl
 | _,_,.cons _ b=>by
  show _+1=_+1
  rw[zhy b]
theorem zsf{P:Params}{h:Heap}{v:Value}{ds:List WData}(x:Well P h v (.list ds)) :∃(a:Addr) (vs:List Value),v=.ref a/\h.get? a=some {cls:=.type "list",data:=.seq vs.toArray}/\WellAll P h vs ds:=by
 cases x with
 | list ho hall=>exact⟨_,_,rfl,ho,hall⟩
theorem zp9{P:Params}{h:Heap}{v:Value}{ds:List WData}(x:Well P h v (.tuple ds)) :∃(a:Addr) (vs:List Value),v=.ref a/\h.get? a=some {cls:=.type "tuple",data:=.seq vs.toArray}/\WellAll P h vs ds:=by
 cases x with
 | tuple ho hall=>exact⟨_,_,rfl,ho,hall⟩
theorem zsg{P:Params}{h:Heap}{us:List Value}{d:WData}{ds:List WData}(x:WellAll P h us (d::ds)) :∃(v:Value) (vs:List Value),us=v::vs/\Well P h v d/\WellAll P h vs ds:=by
 cases x with
 | cons a b=>exact⟨_,_,rfl,a,b⟩
theorem zwI{n:Nat}(h:n<=1048576):n<=sizeLine:=nLt h (by decide)
section
variable {P:Params}{h:Heap}
mutual
theorem zzt :∀(d:WData) (v:Value),Well P h v d->plW d=true->d.weight<=1048576->∃A:List Addr,OkU A v/\∀a∈A,zfT h A a
 | .none,_,x,_,_=>by
  cases x
  exact⟨[],trivial,fun a m=>absurd m (by simp)⟩
 | .bool b,_,x,_,_=>by
  cases x
  exact⟨[],trivial,fun a m=>absurd m (by simp)⟩
 | .int i,_,x,_,_=>by
  cases x
  exact⟨[],trivial,fun a m=>absurd m (by simp)⟩
 | .str s,_,x,_,_=>by
  cases x
  exact⟨[],trivial,fun a m=>absurd m (by simp)⟩
 | .bytes b,_,x,_,_=>by
  cases x
  exact⟨[],trivial,fun a m=>absurd m (by simp)⟩
 | .list ds,_,x,p,z=>by
  obtain⟨a,vs,rfl,ho,hall⟩:=zsf x
  have z2:WData.weightAll ds<=1048576:=z
  obtain⟨A,h1,h2⟩:=zlM ds _ hall p fun d hd=>nLt (zlL hd) z2
  have k :∀b∈A,b∈a::A:=fun b hb=>lMc _ hb
  refine⟨a::A,lMs ..,fun b hb=>?_⟩
  rcases List.mem_cons.mp hb with e|m
  ·rw[e]
   exact⟨vs,zwI (by rw[zhy hall];exact nLt (PySem.W.length_le_weightAllW ds) z2),fun u hu=>(h1 u hu).mono k,.inl ho⟩
  ·exact(h2 b m).mono k
 | .tuple ds,_,x,p,z=>by
  obtain⟨a,vs,rfl,ho,hall⟩:=zp9 x
  have z2:WData.weightAll ds<=1048576:=z
  obtain⟨A,h1,h2⟩:=zlM ds _ hall p fun d hd=>nLt (zlL hd) z2
  have k :∀b∈A,b∈a::A:=fun b hb=>lMc _ hb
  refine⟨a::A,lMs ..,fun b hb=>?_⟩
  rcases List.mem_cons.mp hb with e|m
  ·rw[e]
   exact⟨vs,zwI (by rw[zhy hall];exact nLt (PySem.W.length_le_weightAllW ds) z2),fun u hu=>(h1 u hu).mono k,.inr ho⟩
  ·exact(h2 b m).mono k
 | .float _,_,_,p,_=>Bool.noConfusion (show false=true from p)
 | .dict _,_,_,p,_=>Bool.noConfusion (show false=true from p)
 | .bytearray _,_,_,p,_=>Bool.noConfusion (show false=true from p)
 | .set _,_,_,p,_=>Bool.noConfusion (show false=true from p)
 | .frozenset _,_,_,p,_=>Bool.noConfusion (show false=true from p)
 | .obj _ _,_,_,p,_=>Bool.noConfusion (show false=true from p)
theorem zlM :∀(ds:List WData) (vs:List Value),WellAll P h vs ds->plWs ds=true->(∀d∈ds,d.weight<=1048576)->∃A:List Addr,(∀u∈vs,OkU A u)/\∀a∈A,zfT h A a
 | [],_,x,_,_=>by
  cases x
  exact⟨[],fun u m=>absurd m (by simp),fun a m=>absurd m (by simp)⟩
 | d::ds,_,x,p,z=>by
  obtain⟨v,vs,rfl,x1,x2⟩:=zsg x
  have q:plW d=true/\plWs ds=true:=Bool.and_eq_true_iff.mp p
  obtain⟨A,a1,a2⟩:=zzt d v x1 q.1 (z d (lMs ..))
  obtain⟨B,b1,b2⟩:=zlM ds vs x2 q.2 fun e he=>z e (lMc _ he)
  have kA :∀b∈A,b∈A++B:=fun b hb=>List.mem_append.mpr (.inl hb)
  have kB :∀b∈B,b∈A++B:=fun b hb=>List.mem_append.mpr (.inr hb)
  refine⟨A++B,fun u hu=>?_,fun b hb=>?_⟩
  ·rcases List.mem_cons.mp hu with e|m
   ·rw[e]
    exact a1.mono kA
   ·exact(b1 u m).mono kB
  ·rcases List.mem_append.mp hb with m|m
   ·exact(a2 b m).mono kA
   ·exact(b2 b m).mono kB
end
end
def hoOf(o:Obj):Option HO:=match o.data with
 | .seq vs _=>if(o.cls==Value.type "list")=true then some (.frz o (.lst (vs.toList.map toV)))else some (.frz o (.tup (vs.toList.map toV)))
 | _=>none
def zdC(K:Fg)(h:Heap)(A:List Addr):Hp:=fun b=>if b∈A then(if(K.lookup b).isNone=true then(h.get? b).bind hoOf else none)else none
def OnlyF(H:Hp):Prop:=∀b,H b=none\/∃o u,H b=some (.frz o u)
theorem ztU(vs:List Value):hoOf {cls:=.type "list",data:=.seq vs.toArray} = some (.frz {cls:=.type "list",data:=.seq vs.toArray} (.lst (vs.map toV))):=by
 show(if(Value.type "list" == Value.type "list")=true then some (HO.frz {cls:=.type "list",data:=.seq vs.toArray} (.lst (vs.toArray.toList.map toV)))else some (HO.frz {cls:=.type "list",data:=.seq vs.toArray} (.tup (vs.toArray.toList.map toV))))=_
 rw[if_pos (beq_self_eq_true _)]
theorem ztV(vs:List Value):hoOf {cls:=.type "tuple",data:=.seq vs.toArray} = some (.frz {cls:=.type "tuple",data:=.seq vs.toArray} (.tup (vs.map toV))):=by
 show(if(Value.type "tuple" == Value.type "list")=true then some (HO.frz {cls:=.type "tuple",data:=.seq vs.toArray} (.lst (vs.toArray.toList.map toV)))else some (HO.frz {cls:=.type "tuple",data:=.seq vs.toArray} (.tup (vs.toArray.toList.map toV))))=_
 rw[if_neg (by decide)]
section
variable {P:Program}{w:World}{K:Fg}{h:Heap}{A:List Addr}
theorem zob{b:Addr}{o:Obj}(hb:b∈A)(hk:K.lookup b=none)(e:h.get? b=some o):zdC K h A b=hoOf o:=by
 unfold zdC
 rw[if_pos hb,hk,if_pos (show(none:Option Obj).isNone=true from rfl),e]<;>rfl
theorem zAB{b:Addr}{u:HO}(q:zdC K h A b=some u):b∈A/\K.lookup b=none:=by
 unfold zdC at q
 by_cases hb:b∈A
 ·rw[if_pos hb]at q
  cases hk:K.lookup b with
  | none=>exact⟨hb,rfl⟩
  | some o=>
   rw[hk,if_neg (by simp)]at q
   cases q
 ·rw[if_neg hb]at q
  cases q
theorem zk1(ar :∀a∈A,zfT h A a){b:Addr}{u:HO}(q:zdC K h A b=some u):K.lookup b=none/\∃vs:List Value,vs.length<=sizeLine/\(∀u∈vs,OkU A u)/\
  ((h.get? b=some {cls:=.type "list",data:=.seq vs.toArray}/\u=.frz {cls:=.type "list",data:=.seq vs.toArray} (.lst (vs.map toV)))\/
   (h.get? b=some {cls:=.type "tuple",data:=.seq vs.toArray}/\u=.frz {cls:=.type "tuple",data:=.seq vs.toArray} (.tup (vs.map toV)))):=by
 obtain⟨hb,hk⟩:=zAB q
 obtain⟨vs,h1,h2,h3⟩:=ar b hb
 refine⟨hk,vs,h1,h2,?_⟩
 rcases h3 with e|e
 ·rw[zob hb hk e,ztU]at q
  exact .inl ⟨e,(oSi q).symm⟩
 ·rw[zob hb hk e,ztV]at q
  exact .inr ⟨e,(oSi q).symm⟩
theorem zyr(ar :∀a∈A,zfT h A a):OnlyF (zdC K h A):=fun b=>by
 cases q:zdC K h A b with
 | none=>exact .inl rfl
 | some u=>
  obtain⟨_,vs,_,_,⟨_,e⟩|⟨_,e⟩⟩:=zk1 ar q
  ·exact .inr ⟨_,_,by rw[e]⟩
  ·exact .inr ⟨_,_,by rw[e]⟩
theorem zAC(ar :∀a∈A,zfT h A a):HOk P w (zdC K h A) h:=fun b u q=>by
 obtain⟨_,vs,h1,h2,⟨e,rfl⟩|⟨e,rfl⟩⟩:=zk1 ar q
 ·exact⟨e,by rw[lmm];exact h1,vs,_,zg6 h2,e⟩
 ·exact⟨e,by rw[lmm];exact h1,vs,zg6 h2,_,e,rfl,_,rfl⟩
theorem zoc{c c':Value}{vs us:List Value}(e:(some {cls:=c,data:=.seq vs.toArray}:Option Obj)=some {cls:=c',data:=.seq us.toArray}):c=c'/\vs=us:=by
 have e1:=oSi e
 have e2:c=c':=congrArg Obj.cls e1
 have e3:Data.seq vs.toArray=Data.seq us.toArray:=congrArg Obj.data e1
 injection e3 with e4
 refine⟨e2,?_⟩
 have e5:=congrArg Array.toList e4
 simpa using e5
theorem argL(KX:K.In h)(ar :∀a∈A,zfT h A a){a:Addr}{vs:List Value}(ha:a∈A)(e:h.get? a=some {cls:=.type "list",data:=.seq vs.toArray}):(∀u∈vs,OkU A u)/\SqL K (zdC K h A) a (vs.map toV):=by
 obtain⟨us,h1,h2,h3⟩:=ar a ha
 have hu:us=vs:=by
  rcases h3 with q|q
  ·rw[e]at q
   exact(zoc q).2.symm
  ·rw[e]at q
   exact absurd (Value.type.inj (zoc q).1) (by decide)
 subst hu
 refine⟨h2,?_⟩
 cases hk:K.lookup a with
 | none=>exact .inl (.inr ⟨_,by rw[zob ha hk e,ztU]⟩)
 | some o=>
  have e2:=KX a o hk
  rw[e]at e2
  obtain rfl:=oSi e2
  exact .inr ⟨_,us.toArray,_,hk,rfl,rfl,rfl,by rw[List.size_toArray];exact h1,by simpa using zg6 h2⟩
theorem argT(KX:K.In h)(ar :∀a∈A,zfT h A a){a:Addr}{vs:List Value}(ha:a∈A)(e:h.get? a=some {cls:=.type "tuple",data:=.seq vs.toArray}):(∀u∈vs,OkU A u)/\SqT K (zdC K h A) a (vs.map toV):=by
 obtain⟨us,h1,h2,h3⟩:=ar a ha
 have hu:us=vs:=by
  rcases h3 with q|q
  ·rw[e]at q
   exact absurd (Value.type.inj (zoc q).1) (by decide)
  ·rw[e]at q
   exact(zoc q).2.symm
 subst hu
 refine⟨h2,?_⟩
 cases hk:K.lookup a with
 | none=>exact .inl (.inr ⟨_,by rw[zob ha hk e,ztV]⟩)
 | some o=>
  have e2:=KX a o hk
  rw[e]at e2
  obtain rfl:=oSi e2
  exact .inr ⟨_,us.toArray,_,hk,rfl,rfl,by rw[List.size_toArray];exact h1,by simpa using zg6 h2⟩
mutual
theorem zBI{Pm:Params}(KX:K.In h)(ar :∀a∈A,zfT h A a) :∀(d:WData) (v:Value),Well Pm h v d->plW d=true->OkU A v->Dw K (zdC K h A) (toV v) d
 | .none,_,x,_,_=>by
  cases x
  exact .non
 | .bool b,_,x,_,_=>by
  cases x
  exact .bl b
 | .int i,_,x,_,_=>by
  cases x
  exact .int i
 | .str s,_,x,_,_=>by
  cases x
  exact .str s
 | .bytes b,_,x,_,_=>by
  cases x
  have z:=Dw.byt (K:=K) (H:=zdC K h A) b.toArray
  exact z
 | .list ds,_,x,p,hu=>by
  obtain⟨a,vs,rfl,ho,hall⟩:=zsf x
  obtain⟨h2,hs⟩:=argL KX ar hu ho
  exact .lst hs (zqa KX ar ds _ hall p h2)
 | .tuple ds,_,x,p,hu=>by
  obtain⟨a,vs,rfl,ho,hall⟩:=zp9 x
  obtain⟨h2,hs⟩:=argT KX ar hu ho
  exact .tup hs (zqa KX ar ds _ hall p h2)
 | .float _,_,_,p,_=>Bool.noConfusion (show false=true from p)
 | .dict _,_,_,p,_=>Bool.noConfusion (show false=true from p)
 | .bytearray _,_,_,p,_=>Bool.noConfusion (show false=true from p)
 | .set _,_,_,p,_=>Bool.noConfusion (show false=true from p)
 | .frozenset _,_,_,p,_=>Bool.noConfusion (show false=true from p)
 | .obj _ _,_,_,p,_=>Bool.noConfusion (show false=true from p)
theorem zqa{Pm:Params}(KX:K.In h)(ar :∀a∈A,zfT h A a) :∀(ds:List WData) (vs:List Value),WellAll Pm h vs ds->plWs ds=true->(∀u∈vs,OkU A u)->zfS K (zdC K h A) (vs.map toV) ds
 | [],_,x,_,_=>by
  cases x
  exact .nil
 | d::ds,_,x,p,hu=>by
  obtain⟨v,vs,rfl,x1,x2⟩:=zsg x
  have q:plW d=true/\plWs ds=true:=Bool.and_eq_true_iff.mp p
  exact .cons (zBI KX ar d v x1 q.1 (hu _ (lMs ..))) (zqa KX ar ds vs x2 q.2 fun u m=>hu u (lMc _ m))
end
end
theorem zys{P:Program}{w:World}{K:Fg}{mg mb:Str->Option Value}{CX:CXT}{k:Nat}{fa:Addr}{fd:FuncData}{ps:List Str}{sp:Sp}{s₁:Shared}{vals:List Value}{ds:List WData}{R:PySem.W.WRecords}{cl:Str->Option Addr}{d0:WData}
  (KX:K.In s₁.heap) (hns:s₁.heap.Ns mainGlobals mg) (hb:s₁.heap.Ns builtinsNs mb) (hbb :∀x:Str,x≠"__name__"->mb x=bootBuiltins x) (hlim:s₁.heap.NoLimit) (hsr:s₁.heap.NoSeer) (hg:s₁.gens = #[])
  (hwl:WellAll w.params s₁.heap vals ds) (hpl:plWs ds=true) (hwt :∀d∈ds,d.weight<=1048576) (hr:zcj k callerA)
  (F :∀base:Heap,K.In base->base.Ns mainGlobals mg->base.NoSeer->zH P w K mg base CX k fa fd ps sp) (hbind :∀(s:Shared) (us:List Value),us.length=ps.length->BindsTo s fd ⟨us,[]⟩ (ps.zip us)) (hlen:ds.length=ps.length)
  (hsp :∀(H:Hp) (xs:List V),OnlyF H->zfS K H xs ds->sp xs H (fun v H'=>Dw K H' v d0) fun _ _ _=>False)
  (hCX :∀H e s',CX [] H s₁ (fun _ _ _=>False) e s'->False) :
  codeAny (model P w) callerA (.call (.ref fa) ⟨vals,[]⟩) (fun r s'=>∃u as,r=.ok (.ret u)/\ReadsW R cl s'.heap u d0 as/\OldK s₁.heap s'.heap/\s'.os=s₁.os/\AllBare s'.gens) s₁:=by
 obtain⟨A,ho,ar⟩:=zlM ds vals hwl hpl hwt
 have hO:OnlyF (zdC K s₁.heap A):=zyr ar
 have hok:HOk P w (zdC K s₁.heap A) s₁.heap:=zAC ar
 have hS:=zqa KX ar ds vals hwl hpl ho
 have hV:=zg6 ho
 have hK :∀b u,zdC K s₁.heap A b=some u->K.lookup b=none:=fun b u q=>(zk1 ar q).1
 have noA :∀{b:Addr} {o:Obj} {es:Array DictEntry} {ep:Nat},s₁.heap.get? b=some o->o.data=.dict es ep->zdC K s₁.heap A b=none:=fun {b o es ep} e d=>by
  cases q:zdC K s₁.heap A b with
  | none=>rfl
  | some u=>
   obtain⟨_,vs,_,_,⟨e2,_⟩|⟨e2,_⟩⟩:=zk1 ar q
   ·rw[e2]at e
    cases e
    have d':Data.seq vs.toArray _=Data.dict es ep:=d
    cases d'
   ·rw[e2]at e
    cases e
    have d':Data.seq vs.toArray _=Data.dict es ep:=d
    cases d'
 have noM :∀{b:Addr} {o:Obj},s₁.heap.get? b=some o->o.cls=.type "module"->zdC K s₁.heap A b=none:=fun {b o} e d=>by
  cases q:zdC K s₁.heap A b with
  | none=>rfl
  | some u=>
   obtain⟨_,vs,_,_,⟨e2,_⟩|⟨e2,_⟩⟩:=zk1 ar q
   ·rw[e2]at e;cases e;exact absurd (Value.type.inj d) (by decide)
   ·rw[e2]at e;cases e;exact absurd (Value.type.inj d) (by decide)
 generalize zdC K s₁.heap A=H at hO hok hS hK noA noM
 have base_of :∀{b:Addr} {o:Obj},s₁.heap.get? b=some o->H b=none->(hidT s₁.heap H).get? b=some o:=fun e n=>zze e n
 have nsK :∀{b:Addr} {m:Str->Option Value},s₁.heap.Ns b m->(hidT s₁.heap H).Ns b m:=fun {b m} ⟨o,es,ep,e,d,r⟩=>⟨o,es,ep,base_of e (noA e d),d,r⟩
 have nK :∀b o,K.lookup b=some o->H b=none:=fun b o e=>by
  cases q:H b with
  | none=>rfl
  | some u=>
   rw[hK b u q]at e
   cases e
 have hKb:K.In (hidT s₁.heap H):=fun b o e=>base_of (KX b o e) (nK b o e)
 have hM:Mod K mg (hidT s₁.heap H):=⟨hKb,nsK hns,⟨mb,nsK hb,hbb⟩,let⟨mc,h1,h2⟩:=hlim;⟨mc,nsK h1,h2⟩⟩
 have hNS:(hidT s₁.heap H).NoSeer:=
  ⟨let⟨mc,x1,x2⟩:=hsr.statics;⟨mc,nsK x1,x2⟩,let⟨mc,x1,x2⟩:=hsr.mods;⟨mc,nsK x1,x2⟩,let⟨mc,x1,x2⟩:=hsr.imp;⟨mc,nsK x1,x2⟩,
   let⟨mc,bm,ob,x1,x2,x3,x4,x5⟩:=hsr.main;⟨mc,bm,ob,nsK x1,x2,base_of x3 (noM x3 x4),x4,x5⟩⟩
 have e0:Env0 P w K mg (hidT s₁.heap H) callerA [] s₁ H:=⟨rfl,hM,fun b o e=>zAk e,Nat.le_of_eq (zx7 _ _),trivial,fun b hb=>absurd (show b∈([]:List Addr)from hb) (by simp),hok,.of_eq hg⟩
 have hl:vals.length=ps.length:=by rw[zhy hwl];exact hlen
 refine codeAny_mono ((F _ hKb (nsK hns) hNS).run callerA [] s₁ H ⟨vals,[]⟩ vals (vals.map toV) _ _ hr e0 (hbind s₁ vals hl) hV (hsp H _ hO hS)) fun r s' x=>?_
 cases r with
 | error e=>exact(hCX H e s' x).elim
 | ok fl=>
  cases fl with
  | next=>exact False.elim x
  | brk=>exact False.elim x
  | cont=>exact False.elim x
  | ret u=>
   obtain⟨v,H',os,bare,un,hok',r',q⟩:=x
   have kept :∀b o,s₁.heap.get? b=some o->s'.heap.get? b=some o:=fun b o e=>by
    cases q2:H b with
    | none=>exact un.keep b o e q2 (by intro z;exact absurd (show b∈([]:List Addr)from z) (by simp)) (by simp)
    | some u2=>
     rcases hO b with z|⟨ob,u3,z⟩
     ·rw[q2]at z
      cases z
     ·have z2:=un.frzs b ob _ z
      obtain⟨e1,_⟩:=hok b _ z
      obtain⟨e2,_⟩:=hok' b _ z2
      rw[e]at e1
      cases e1
      exact e2
   have KX':K.In s'.heap:=fun b o e=>kept b o (KX b o e)
   obtain⟨as,hrd⟩:=Dw.reads (R:=R) (cl:=cl) hok' KX' d0 v u q r'
   exact⟨u,as,rfl,hrd,OldK.of_keep kept,os,bare⟩
theorem zq7{ds:List WData}(h:WData.layableAll ds=true) :∀d∈ds,d.weight<=1048576:=fun d hd=>
 (PySem.W.layableW_iff.mp (List.all_eq_true.mp h d hd)).2.2
theorem zqb :∀(cs:List Codec) (a:Codec.denoteAll cs),(Codec.encAll cs a).length=cs.length
 | [],_=>rfl
 | c::cs,a=>by
  show(Codec.encAll cs a.2).length+1=cs.length+1
  rw[zqb cs a.2]
theorem zyt{r:OpenSpec}{k:Nat}{q:Program}{loose:List Str}{XP:(Str->Option Value)->Heap->Prop}{YP:World->Heap->Prop}{d:DefRec}{K:Params->Fg}{CX:World->CXT}{ps:List Str}{sp:World->Sp}
  (himp:importsNone q=true) (hwell:r.wellSaid=true) (hdf:d.params.defaults=[]) (hlen:r.args.length=ps.length) (hr:zcj k callerA)
  (hY :∀(w:World) (h:Heap),YP w h->(K w.params).In h)
  (F :∀(w:World) (mg:Str->Option Value) (fa:Addr) (h:Heap),YP w h->(K w.params).In h->h.Ns mainGlobals mg->mg d.name=some (.ref fa)->
   ∃fd:FuncData,(∀(s:Shared) (us:List Value),us.length=ps.length->BindsTo s fd ⟨us,[]⟩ (ps.zip us))/\
    ∀base:Heap,(K w.params).In base->base.Ns mainGlobals mg->base.NoSeer->zH r.prog w (K w.params) mg base (CX w) k fa fd ps (sp w))
  (hsp :∀(w:World) (H:Hp) (xs:List V) (a:Codec.denoteAll r.args),OnlyF H->Codec.withinAll r.args a=true->Codec.app r.args r.asked a=true->zfS (K w.params) H xs (Codec.encAll r.args a)->
   sp w xs H (fun v H'=>Dw (K w.params) H' v (r.ret.enc (Codec.app r.args r.f a))) fun _ _ _=>False)
  (hCX :∀(w:World) (H:Hp) (s:Shared) (e:Value) (s':Shared),CX w [] H s (fun _ _ _=>False) e s'->False) :
  PySem.W.WalkOS q loose XP YP r d [] (fun f vs=>PySem.call f vs):=by
 intro w s_0 s₁ mg mb G Y fa o pm cd doc dV kV ho hd hcd hD hmg hg args vals as hpre hlay hrd hwl hlo
 obtain⟨a,e1,e2⟩:=PySem.W.os_pre_some hpre
 obtain⟨e3,hwi⟩:=Codec.encAll_of_decAll r.args args a e1
 subst e3
 have KX:=hY w _ Y
 obtain⟨fd,hb,hF⟩:=F w mg fa _ Y KX G.T.g hmg
 refine PySem.W.enter_call (codeAny_mono (zys (R:=[]) (cl:=classAt s_0.heap) (d0:=r.ret.enc (Codec.app r.args r.f a)) KX G.T.g G.T.b G.T.builtins G.T.nolimit (G.T.seer himp) hg hwl (zse _ _) (zq7 hlay) hr hF hb (by rw[zqb];exact hlen)
  (fun H xs hO hS=>hsp w H xs a hO hwi e2 hS) fun H e s'=>hCX w H s₁ e s') fun r' s' hq=>?_)
 obtain⟨u,as',rfl,h1,h2,h3,h4⟩:=hq
 exact⟨.inl ⟨u,_,as',rfl,fun _=>rfl,h1,(OpenSpec.post_iff hwell hwi _ _).mpr rfl,fun z=>Bool.noConfusion (show false=true from z)⟩,h2,h3,h4⟩
theorem zxe{r:OpenSpec}{k:Nat}{q:Program}{loose:List Str}{XP:(Str->Option Value)->Heap->Prop}{YP:World->Heap->Prop}{d:DefRec}{K:Params->Fg}{CX:CXT}{ps:List Str}{sp:Fg->Sp}
  (himp:importsNone q=true) (hwell:r.wellSaid=true) (hdf:d.params.defaults=[]) (hlen:r.args.length=ps.length) (hr:zcj k callerA)
  (hY :∀(w:World) (h:Heap),YP w h->(K w.params).In h)
  (F :∀(w:World) (mg:Str->Option Value) (fa:Addr) (h:Heap),YP w h->(K w.params).In h->h.Ns mainGlobals mg->mg d.name=some (.ref fa)->
   ∃fd:FuncData,(∀(s:Shared) (us:List Value),us.length=ps.length->BindsTo s fd ⟨us,[]⟩ (ps.zip us))/\
    ∀base:Heap,(K w.params).In base->base.Ns mainGlobals mg->base.NoSeer->zH r.prog w (K w.params) mg base CX k fa fd ps (sp (K w.params)))
  (hsp :∀(K:Fg) (H:Hp) (xs:List V) (a:Codec.denoteAll r.args),OnlyF H->Codec.withinAll r.args a=true->Codec.app r.args r.asked a=true->zfS K H xs (Codec.encAll r.args a)->
   sp K xs H (fun v H'=>Dw K H' v (r.ret.enc (Codec.app r.args r.f a))) fun _ _ _=>False)
  (hCX :∀(H:Hp) (s:Shared) (e:Value) (s':Shared),CX [] H s (fun _ _ _=>False) e s'->False) :
  PySem.W.WalkOS q loose XP YP r d [] (fun f vs=>PySem.call f vs):=
 zyt (K:=K) (CX:=fun _=>CX) (sp:=fun w=>sp (K w.params)) himp hwell hdf hlen hr hY F (fun w H xs a h1 h2 h3 h4=>hsp (K w.params) H xs a h1 h2 h3 h4) fun _ H s e s'=>hCX H s e s'
end L2
end
namespace L2
open PySem PySem.Spec PyProof.Rows
open Builtin.Int (intBits)
section
variable {X:Cx}
def CMulB(i j:Int):Prop:=intBits i+intBits j<=134217728
theorem za2:OpR X (binaryOp .Mult) (rI CMulB fun i j=>.int (i*j)):=opI fun _ _ _ _ _ _ _ hc q=>mul_int q (IntMulOk.of_le (nLr _) (nLr _) hc)
structure Big(X:Cx):Prop where
 seer:X.base.NoSeer
 tree:X.prog.given.tree=none
 stk:X.stack=X.env::X.outer
 gen:X.env.scope.isGenerator=false
 co:X.env.scope.isCoroutine=false
 dp:X.A.depth+Builtin.pylongFrames<recursionLimit
theorem Inv.pylong{pins:List (Addr×Obj)}{σ:St}{H:Hp}{s:Shared}(I:Inv X pins σ H s)(B:Big X):PylongRoom (model X.prog X.w) X.A s:=
 PylongRoom.of I.nolimit B.dp (SeerAt.of (B.seer.keeps I.bk) B.tree (by rw[I.ok.frames,B.stk]) B.gen B.co I.ok.blt I.ok.glob)
theorem zlN(B:Big X):OpR X (binaryOp .FloorDiv) (rI (fun _ j=>0<j) fun i j=>.int (i/j)):=by
 intro pins s σ H x y v u Q I rx ry h
 obtain⟨i,j,rfl,rfl,hc,q⟩:=h
 obtain⟨t,rfl⟩:=rx
 obtain⟨t',rfl⟩:=ry
 have h1:(0:Int)<j:=hc
 exact floordiv_int (by omega) (by rw[Int.fdiv_eq_ediv_of_nonneg i (by omega)];exact⟨.int _,H,I.tok _,⟨_,rfl⟩,q⟩) (.inr (I.pylong B))
inductive rBits(x:V)(vs:List V)(H:Hp)(Q:VK):Prop|I:∀i,x=.int i->vs=[]->Q (.int (intBits i)) H->rBits x vs H Q
theorem zwJ:MtR X "int.bit_length" rBits:=by
 intro pins s σ H x xs v us Q I rx rv h
 obtain⟨i,rfl,rfl,q⟩:=h
 obtain⟨t,rfl⟩:=rx
 have e:=rv.zero
 subst e
 exact call_int_bit_length ⟨.int _,H,I.tok _,⟨_,rfl⟩,q⟩
theorem zas{x:Str}{i:Int}{pos:Pos}(hg:Gl X x)(hm :∃t,X.mg x=some (.int i t))(hd:(x==("__debug__" : Str))=false:=by decide):PE X (.Name x pos) (tC (.int i)):=by
 obtain⟨t,e⟩:=hm
 exact zn9 (v:=.int i) hg e ⟨t,rfl⟩ hd
structure Callee(X:Cx)(f:Addr)(sp:Sp):Prop where
 ok :∃k fd ps,zH X.prog X.w X.K X.mg X.base CX0 k f fd ps sp/\zcj k X.A/\zE X.K fd ps []/\PySem.W.keepIn X.K (.ref f)=true
def tCallV(X:Cx)(tf:TE)(t:TA):TE:=fun σ H Q=>tf σ H fun x H1=>E2 fun f sp=>x=.ref f/\Callee X f sp/\t σ H1 fun vs H2=>sp vs H2 Q E0
theorem zzu{x:Str}{p pos:Pos}{e:Expr}{es:List Expr}{tf:TE}{t:TA}(hf:PE X (.Name x p) tf)(ha:PA X (e::es) t)
  (he:starEach (e::es) X.env=(false,eval e X.env)::starEach es X.env:=by rfl) (hpl:(backTo pos (starEach es X.env)).any (·.1)=false:=by rfl) :
  PE X (.Call (.Name x p) (e::es) [] pos) (tCallV X tf t):=by
 intro pins s σ H Q I h
 refine wpAny_Call_Name_kw (thn (hf pins s σ H _ I h) fun v s0 ⟨y,H0,I0,ry,q0⟩=>?_)
 obtain⟨f,sp,rfl,⟨k,fd,ps,F,hr,hb,hk⟩,q⟩:=q0
 obtain rfl:v=Value.ref f:=ry
 refine PySem.W.callWith_K (h₀:=X.base) I.ok.mod.kin hk (thn (ha pos pins s0 σ H0 _ I0 q) fun us s1 ⟨vs,H1,I1,r,q⟩=>⟨I1.kIn,?_⟩) he hpl
 exact zp6 F hr hb .nil zj I1 r (by rw[List.append_nil];exact q)
inductive rGetL(K:Fg)(o y:V)(H:Hp)(Q:VK):Prop|I:∀p xs j v,o=.ref p->y=.int ((j:Nat):Int)->SqL K H p xs->xs[j]? = some v->Q v H->rGetL K o y H Q
theorem ztW:PGet X (rGetL X.K):=by
 intro pins s σ H o i ov iv Q I ro ri h
 obtain⟨p,xs,j,z,rfl,rfl,hq,he,q⟩:=h
 cases ro
 obtain⟨t,rfl⟩:=ri
 obtain⟨its,r,pl,hz⟩:=I.list hq
 obtain⟨w,ew,rw'⟩:=r.get he
 have hl:=r.length
 have hn:=zkY
 have hj:j<xs.length:=(List.getElem?_eq_some_iff.mp he).1
 exact wpAny_getItem_list pl.isList (by omega) (by omega) (by simpa using ew) ⟨z,H,I,rw',q⟩
end
end L2
namespace PySem
open Sem (wp)
open AutoSeq1 (wpAny_loadPart')
theorem zvv(a b:Value):checkTypeCall "enumerate" ⟨[a],[("start",b)]⟩=pure ():=by kernel_rfl
theorem zxf(a b:Value):checkBuiltinCall "enumerate.__new__" ⟨[.type "enumerate",a],[("start",b)]⟩=pure ():=by kernel_rfl
theorem zvw(obj a b:Value):argsOk "object.__init__" ⟨[obj,a],[("start",b)]⟩:=by unfold argsOk;kernel_rfl
theorem zBJ(l:Addr)(items:Array Value)(n:Nat)(dct:Option Addr)(sl:Array (Option Value))(t:Tok) :
  Meets (Builtin.«enumerate.__new__» ⟨[.type "enumerate",.ref l],[("start",.int 1 t)]⟩) (fun _ R s=>s.heap.get? l=some {cls:=.type "list",dict:=dct,data:=.seq items n,slots:=sl}/\
   R (.ok (.ret (.ref (s.heap.push {cls:=.type "list_iterator",data:=.fields #[.ref l,.int 0 0]}).objs.size)))
    {s with heap:=(s.heap.push {cls:=.type "list_iterator",data:=.fields #[.ref l,.int 0 0]}).push {cls:=.type "enumerate",data:=.fields #[.none,.bool false,.ref s.heap.objs.size,rawInt 1,.none,.none]}}):=by
 refine Meets.of_wp fun prog w A R s h=>?_
 obtain⟨hp,g,d,tk,os⟩:=s
 obtain⟨hl,hR⟩:=h
 have h1:=sub_enumerate
 have hL:Heap.IsList (Shared.heap ⟨hp,g,d,tk,os⟩) l items:=⟨_,hl,rfl,n,rfl⟩
 wp_walk using(wpAny_loadPart' hl)
 refine wpAny_stack_any fun st=>wpAny_pure ?_
 have f1:=@AutoSeq1.idx_int
 split
 ·next c _ _ _ _ _=>
  cases (c==Value.type "enumerate")<;>(wp_walk using(wpAny_loadPart' hl),(wpAny_pyIter_list hL))
  all_goals exact⟨_,rfl,hR⟩
 ·wp_walk using(wpAny_loadPart' hl),(wpAny_pyIter_list hL)
  exact⟨_,rfl,hR⟩
theorem zAD(self a b:Value):Meets (Builtin.«object.__init__» ⟨[self,a],[("start",b)]⟩) (fun _ R s=>s.TypeIs self "enumerate"/\R (.ok (.ret .none)) s):=by
 refine Meets.of_wp fun prog w A R s hs=>?_
 obtain⟨hT,hq⟩:=hs
 have g1:=F.called_enumerate.init.lookup
 have g2:=F.called_enumerate.made
 repeat any_goals first|assumption|wp_step
 exact⟨_,rfl,hq⟩
section
variable {prog:Program}{w:World}{A:Around}{E:Value->Shared->Prop}{s:Shared}
theorem zAE{a b:Value}{S:Spec}{Q:Value->Shared->Prop}(g:Meets (Builtin.«enumerate.__new__» ⟨[.type "enumerate",a],[("start",b)]⟩) S)
  (h:S A.in1 (wants (fun obj s₁=>s₁.TypeIs obj "enumerate"/\Q obj s₁) E) s):wpAny (model prog w) A (call (.type "enumerate") [a] [("start",b)]) Q E s:=by
 have ft:=F.called_enumerate
 obtain⟨c,tl,hmro⟩:=ft.mro
 have hmade:=ft.made
 have hsub:=ft.sub
 have hct:=zvv a b
 have hcn:=zxf a b
 refine wpAny_call (codeAny_of_tree ?_)
 show wpAny _ _ (callAny (.type "enumerate") _) _ _ _
 refine wpAny_pure ⟨Code.quiet_builtin _ (by decide +kernel),codeAny_builtin F.entry_type_call ?_⟩
 rw[Around.under_plain (weight_type_call_type "enumerate" [a] [("start",b)]) (units_type_call_type "enumerate" [a] [("start",b)])]
 have h1:=ft.notType
 have h2:=ft.canCreate
 repeat any_goals first|assumption|wp_step
 refine codeAny_mono (codeAny_call_builtin ft.plain F.entry_enumerate_new (wpAny_of_eq hcn (g prog w A.in1 _ s h))) fun r1 t1 q1=>?_
 match r1,q1 with
 | .error e,q1=>exact q1
 | .ok (.ret obj),q1=>
  obtain⟨hT,hq⟩:=q1
  have g1:=ft.init.lookup
  have g2:=ft.init.bind obj
  repeat any_goals first|assumption|wp_step
  refine codeAny_mono (codeAny_call_builtin ft.init.plain F.entry_object_init (ft.init.check _ _ _ _ _ _ _ _ hT (zvw obj a b) (zAD obj a b prog w A.in1 (wants (fun r t2=>r=.none/\Q obj t2) E) t1 ⟨hT,rfl,hq⟩))) fun r2 t2 q2=>?_
  match r2,q2 with
  | .error e,q2=>exact q2
  | .ok (.ret r),q2=>
   obtain⟨rfl,hq2⟩:=q2
   repeat any_goals first|assumption|wp_step
  | .ok .next,q2=>exact q2.elim
  | .ok .brk,q2=>exact q2.elim
  | .ok .cont,q2=>exact q2.elim
 | .ok .next,q1=>exact q1.elim
 | .ok .brk,q1=>exact q1.elim
 | .ok .cont,q1=>exact q1.elim
theorem zxg{l:Addr}{items:Array Value}{t:Tok}{Q:Value->Shared->Prop}(hL:s.heap.IsList l items)
  (h :∀h',IsEnum h' (s.heap.objs.size+1) s.heap.objs.size 1 .none->h'.IsListIter s.heap.objs.size l 0->
   (∀b o,s.heap.get? b=some o->h'.get? b=some o)->Q (.ref (s.heap.objs.size+1)) {s with heap:=h'}) :
  wpAny (model prog w) A (call (.type "enumerate") [.ref l] [("start",.int 1 t)]) Q E s:=by
 obtain⟨⟨c,dct,dt,sl⟩,hl,hc,n,hd⟩:=hL
 have hc':c=.type "list":=hc
 have hd':dt=.seq items n:=hd
 subst hc'
 subst hd'
 refine zAE (zBJ l items n dct sl t) ⟨hl,?_⟩
 have hz:(s.heap.push {cls:=.type "list_iterator",data:=.fields #[.ref l,.int 0 0]}).objs.size=s.heap.objs.size+1:=by rw[Heap.size_push]
 show _/\Q _ _
 rw[hz]
 have he:=Heap.get?_push_size (s.heap.push {cls:=.type "list_iterator",data:=.fields #[.ref l,.int 0 0]}) (o:={cls:=.type "enumerate",data:=.fields #[.none,.bool false,.ref s.heap.objs.size,rawInt 1,.none,.none]}) rfl
 rw[hz]at he
 exact⟨⟨_,he,rfl⟩,h _ he ⟨_,Heap.get?_push_of_some _ (Heap.get?_push_size _ rfl),rfl,rfl⟩ fun b o q=>Heap.get?_push_of_some _ (Heap.get?_push_of_some _ q)⟩
end
end PySem
namespace L2
open PySem PySem.Spec PyProof.Rows
theorem zzv{prog:Program}{w:World}{A:Around}{it:Addr}{fp:List Addr}{n:Nat}{Pd:Nat->Value->Prop}{Sd:Nat->Heap->Prop}(D:Draws prog w A it fp n Pd Sd) :
  Draws prog w A it fp (n+1) (fun j v=>∃i,j=i+1/\Pd i v) (fun j h=>∃i,j=i+1/\Sd i h) where
 live:=fun j h ⟨i,_,st⟩=>D.live i h st
 frame:=fun j h h' ⟨i,e,st⟩ hk=>⟨i,e,D.frame i h h' st hk⟩
 item:=fun j s Q E hj ⟨i,e,st⟩ hQ=>by
  subst e
  exact D.item i s Q E (by omega) st fun x h' tk p st' sb=>hQ x h' tk ⟨i,rfl,p⟩ ⟨i+1,rfl,st'⟩ sb
 done:=fun s Q E ⟨i,e,st⟩ hE=>by
  have e2:i=n:=by omega
  subst e2
  exact D.done s Q E st hE
theorem zAF{prog:Program}{w:World}{A:Around}(hh:A.handled=none)(it l:Addr)(i:Nat)(items:Array Value)(hx:items[i]? = none) :
  Draws prog w A it [it,l] i (fun _ _=>True) (fun j h=>j=i/\h.IsListIter it l i/\h.IsList l items) where
 live:=fun j h ⟨_,st,_⟩=>let⟨o,ho,_⟩:=st;⟨o,ho⟩
 frame:=fun j h h' ⟨e,st,sl⟩ hk=>⟨e,st.at fun o q=>hk it (by simp) o q,sl.at fun o q=>hk l (by simp) o q⟩
 item:=fun j s Q E hj ⟨e,_⟩ _=>absurd e (by omega)
 done:=fun s Q E ⟨_,st,sl⟩ hE=>wpAny_nextOf_list_end hh st sl hx hE
def Ite1(K:Fg)(a:Addr):It:=
 ⟨fun i H=>∃(xs:List V) (x:V),SqL K H a xs/\xs[i]? = some x,fun i H v H'=>∃T x,v=.ref T/\H T=none/\H'=upd H T (.tup [.int ((i+1:Nat):Int),x])/\∀xs,SqL K H a xs->xs[i]? = some x,fun i H=>∃xs:List V,SqL K H a xs/\xs.length<=i⟩
theorem ztX{h:Heap}{a it:Addr}{items:Array Value}{i:Nat}(hl:h.IsList a items)(hi:h.IsListIter it a i):a≠it:=by
 intro z
 subst z
 obtain⟨o,e1,c1,_⟩:=hl
 obtain⟨o2,e2,c2,_⟩:=hi
 rw[e1]at e2
 cases e2
 rw[c1]at c2
 exact absurd (Value.type.inj c2) (by decide)
theorem ztY{h:Heap}{a e it:Addr}{items:Array Value}{i:Int}{old:Value}(hl:h.IsList a items)(he:IsEnum h e it i old):e≠a:=by
 intro z
 subst z
 obtain⟨o,e1,c1,_⟩:=hl
 have e2:h.get? e=some _:=he
 rw[e1]at e2
 cases e2
 exact absurd (Value.type.inj c1) (by decide)
theorem zxh{P:Program}{w:World}{K:Fg}{elts:List Expr}{kk:Nat}{tpos:Pos}(a e it:Addr) :
  Turn P w K (.Tuple elts kk tpos) (Ite1 K a) [e,it] e (fun i h=>(∃old,IsEnum h e it ((i+1:Nat):Int) old)/\h.IsListIter it a i/\e≠it) where
 mem:=by simp
 obj:=fun i h st b hb=>by
  obtain⟨⟨old,he⟩,⟨o,ho,hc,hd⟩,_⟩:=st
  have e':b=e\/b=it:=by simpa using hb
  rcases e' with z|z
  ·rw[z];exact⟨_,he,fun v q=>nomatch q⟩
  ·rw[z];exact⟨o,ho,fun v q=>by rw[hd]at q;cases q⟩
 keep:=fun i h h' st k=>let⟨⟨old,he⟩,hi,hne⟩:=st;⟨⟨old,k e (by simp) _ he⟩,hi.at fun o q=>k it (by simp) o q,hne⟩
 item:=by
  intro X hP hw hK hc i pins s σ H E I hf st hg
  subst hP hw hK
  obtain⟨⟨old,he⟩,hit,hne⟩:=st
  obtain⟨xs,x,hq,hx⟩:=hg
  obtain⟨its,rv,p,hz⟩:=I.list hq
  obtain⟨u,hu,ru⟩:=rv.get hx
  have hel:e<s.heap.objs.size:=Heap.lt_size he
  have hil:it<s.heap.objs.size:=by obtain⟨_,q,_⟩:=hit;exact Heap.lt_size q
  have hal:=ztX p.isList hit
  have hi2:i<its.toArray.size:=by rw[List.size_toArray];exact(List.getElem?_eq_some_iff.mp hu).1
  have D:=zzv (Draws.list (prog:=X.prog) (w:=X.w) (A:=X.A.in1) (I.ok.hd hc) it a hal its.toArray)
  refine wpAny_pyNext_enum_itemD (i:=i+1) D he ⟨i,rfl,hit,p.isList⟩ (by omega) hne (by simp[hne,ztY p.isList he]) fun v h' tk hP ho hit' hT hsz hk=>?_
  obtain⟨j,ej,hv⟩:=hP
  have ej':j=i:=by omega
  subst ej'
  have ev:v=u:=by
   have h1:its.toArray[j]? = some u:=by simpa using hu
   rw[h1]at hv
   exact(oSi hv).symm
  subst ev
  obtain⟨j2,ej2,hit2,_⟩:=hit'
  have ej3:j2=j+1:=by omega
  subst ej3
  refine⟨_,rfl,wpAny_letOwnedTupleGo_enum (s:={s with heap:=h',toks:=tk+1}) ho fun h'' he' sb=>?_⟩
  have hT2:h''.get? s.heap.objs.size=some {cls:=.type "tuple",data:=.seq #[.int ((j+1:Nat):Int) tk,v]}:=(sb.2 _ (Nat.ne_of_gt hel)).trans hT
  have new:zbr X.prog X.w (upd H s.heap.objs.size (.tup [.int ((j+1:Nat):Int),x])) h'' s.heap.objs.size (.tup [.int ((j+1:Nat):Int),x]):=
   ⟨by show 2<=sizeLine;decide,[.int ((j+1:Nat):Int) tk,v],.cons ⟨_,rfl⟩ (.cons ru .nil),⟨_,hT2,rfl,_,rfl⟩⟩
  have I1:Inv X pins σ (upd H s.heap.objs.size (.tup [.int ((j+1:Nat):Int),x])) {s with heap:=h'',toks:=tk+1}:=
   I.turnedNew (ch:=[e,it]) (fun b ob hb q=>(sb.2 b (fun z=>hb (by simp[z]))).trans (hk b ob (fun z=>hb (by simp[z])) (fun z=>hb (by simp[z])) q)) hf (nLr _) new
  refine⟨.ref s.heap.objs.size,_,I1,rfl,⟨_,x,rfl,I.hok.fresh (nLr _),rfl,fun ys hy=>by rw[I.list_inj hy hq];exact hx⟩,⟨⟨v,?_⟩,hit2.at fun o q=>(sb.2 it (Ne.symm hne)).trans q,hne⟩,fun b hb=>?_⟩
  ·have e1:((j+1+1:Nat):Int)=((j+1:Nat):Int)+1:=by omega
   rw[e1];exact he'
  ·have hb':b<s.heap.objs.size:=by
    have e':b=e\/b=it:=by simpa using hb
    rcases e' with z|z
    ·rw[z];exact hel
    ·rw[z];exact hil
   rw[zf (Nat.ne_of_lt hb')]
   exact(hf b hb).1
 done:=by
  intro X hP hw hK hc i pins s σ H E I hf st hg
  subst hP hw hK
  obtain⟨⟨old,he⟩,hit,hne⟩:=st
  obtain⟨xs,hq,hx⟩:=hg
  obtain⟨its,rv,p,hz⟩:=I.list hq
  obtain⟨f0,f1,f2,f3,f4,f5⟩:=hf it (by simp)
  have hl:=rv.length
  have D:=zAF (prog:=X.prog) (w:=X.w) (A:=X.A.in1) (I.ok.hd hc) it a i its.toArray (by simp;omega)
  exact wpAny_pyNext_enum_endD D he ⟨rfl,hit,p.isList⟩ fun h' eb=>⟨rfl,I.turned (t':=s.toks) (fun b o hb q=>eb b o hb q) f0 f1 f3 f4 f5⟩
 self:=fun A i s Q E st h=>let⟨⟨_,he⟩,_⟩:=st;wpAny_pyIter_enum he h
theorem zqc{M:Model}{A:Around}{E:Value->Shared->Prop}{s:Shared}{pos:Pos}{T:String}{args:List (Bool×Sem Value)}{kws:List (Option Str×Sem Value)}{Q:Value->Shared->Prop}
  (hp:args.any (·.1)=false) (hk:kws.any (·.1.isNone)=false)
  (h:wpAny M A (evalArgs (.type T) true args kws) (fun a s1=>wpAny M A (call (.type T) a.pos a.kw) Q E s1) E s):wpAny M A (callWith pos (.type T) [] args kws) Q E s:=by
 unfold callWith
 refine wpAny_bind (wpAny_holding (thn h fun a s1 h1=>wpAny_bind (wpAny_standAt ?_)))
 simp only[hp,hk,Bool.or_false]
 refine wpAny_bind (wpAny_pure (wpAny_bind (thn h1 fun r s2 h2=>?_)))
 exact wpAny_bind (wpAny_holding (wpAny_point (wpAny_pure h2)))
def iEnum1(K:Fg)(ta:TA)(tk:TA):TI:=fun σ H R=>ta σ H fun vs H1=>tk σ H1 fun ws H2=>E2 fun a xs=>vs=[.ref a]/\ws=[.int 1]/\SqL K H2 a xs/\R (Ite1 K a) H2
theorem zzw{X:Cx}{e e2:Expr}{kp:Pos}{ta tk:TA}{p pos tpos:Pos}{elts:List Expr}{kk:Nat}(hg:Gl X "enumerate") (hm:X.mg "enumerate" = none) (ha:PA X [e] ta) (hk:PK X [⟨some "start",e2,kp⟩] tk)
  (hs:starEach [e] X.env=[(false,eval e X.env)]:=by rfl) (hst:backTo pos (starEach [e] X.env)=(false,eval e X.env)::backTo pos (starEach [] X.env):=by rfl)
  (hall:(backToKw pos (keywordEach [⟨some "start",e2,kp⟩] X.env)).all (·.1.isSome)=true:=by rfl) (hno:(backToKw pos (keywordEach [⟨some "start",e2,kp⟩] X.env)).any (·.1.isNone)=false:=by rfl)
  (hks:(backToKw pos (keywordEach [⟨some "start",e2,kp⟩] X.env)).filterMap (·.1)=[("start" : Str)]:=by rfl) :
  PI X (.Tuple elts kk tpos) (.Call (.Name "enumerate" p) [e] [⟨some "start",e2,kp⟩] pos) (iEnum1 X.K ta tk):=by
 intro pins s σ H R I h
 refine wpAny_Call_Name_kw (zi2 I hg hm boot_enumerate ?_)
 refine zqc (by rw[hst];rfl) hno ?_
 rw[hst]
 refine evalArgs_kwB hall ?_
 rw[<-hst]
 refine thn (ha pos pins s σ H _ I h) fun us s1 ⟨vs,H1,I1,r1,q1⟩=>?_
 refine thn (hk pos pins s1 σ H1 _ I1 q1) fun ks s2 ⟨ws,H2,I2,r2,q2⟩=>?_
 obtain⟨a,xs,ex,ew,hq,q⟩:=q2
 subst ex
 subst ew
 obtain⟨v,rfl,rv⟩:=r1.one
 obtain⟨u,rfl,ru⟩:=r2.one
 cases rv
 obtain⟨t,rfl⟩:=ru
 rw[hks]
 obtain⟨its,rr,p',hz⟩:=I2.list hq
 refine zxg p'.isList fun h' he hit hk'=>wpAny_pyIter_enum he ?_
 have I3:Inv X pins σ H2 {s2 with heap:=h'}:=I2.kept (t':=s2.toks) hk'
 refine⟨s2.heap.objs.size+1,[s2.heap.objs.size+1,s2.heap.objs.size],_,_,H2,rfl,I3,zxh a (s2.heap.objs.size+1) s2.heap.objs.size,⟨⟨.none,he⟩,hit,Nat.succ_ne_self _⟩,fun b hb=>?_,q⟩
 have hle:s2.heap.objs.size<=b:=by
  have e':b=s2.heap.objs.size+1\/b=s2.heap.objs.size:=by simpa using hb
  rcases e' with z|z
  ·exact z▸Nat.le_succ _
  ·exact z▸nLr _
 exact I2.fpOk hle (I2.hok.fresh hle)
theorem zyu{K:Fg}{a:Addr}{xs:List V}{g:TG}{tb:TS}{D:Ends}{σ:St}{H:Hp}(Pv:Nat->St->Hp->Prop)(h0:Pv 0 σ H)(hl :∀i σ H,i<=xs.length->Pv i σ H->SqL K H a xs)
  (hs :∀i x T σ H,xs[i]? = some x->H T=none->Pv i σ H->g (.ref T) σ (upd H T (.tup [.int ((i+1:Nat):Int),x])) fun σ2 H2=>tb {D with nx:=Pv (i+1),ct:=Pv (i+1),bk:=D.nx} σ2 H2) (hd :∀σ H,Pv xs.length σ H->D.nx σ H) :
  ∃W:Nat->Nat->St->Hp->Prop,(∃m,W 0 m σ H)/\∀i m σ H,W i m σ H->
   ((Ite1 K a).stop i H/\D.nx σ H)\/((Ite1 K a).go i H/\∃N:St->Hp->Prop,(∀σ' H',N σ' H'->∃m',m'<m/\W (i+1) m' σ' H')/\∀x H',(Ite1 K a).yld i H x H'->g x σ H' fun σ2 H2=>tb {D with nx:=N,ct:=N,bk:=D.nx} σ2 H2):=by
 refine⟨fun i m σ H=>m=xs.length-i/\i<=xs.length/\Pv i σ H,⟨xs.length,by simp,Nat.zero_le _,h0⟩,?_⟩
 rintro i m σ H ⟨rfl,hi,p⟩
 have q:=hl i σ H hi p
 by_cases hlt:i<xs.length
 ·refine .inr ⟨⟨xs,xs[i],q,by simp[hlt]⟩,Pv (i+1),fun σ' H' p'=>⟨xs.length-(i+1),by omega,rfl,hlt,p'⟩,fun v H' y=>?_⟩
  obtain⟨T,x,rfl,hT,rfl,hx⟩:=y
  exact hs i x T σ H (hx xs q) hT p
 ·have e:i=xs.length:=by omega
  subst e
  exact .inl ⟨⟨xs,q,nLr _⟩,hd σ H p⟩
end L2
namespace PySem
open AutoSeq1 (wpAny_loadPart' idx_int sub_tuple_tuple sub_list_list sub_tuple_list sub_list_tuple)
theorem zAG(l:Addr)(xs:Array Value)(n:Nat)(b:Addr)(ys:Array Value)(m:Nat)(dct:Option Addr)(sl:Array (Option Value))(h0:¬(!xs.isEmpty&&Builtin.List.listTooLong (xs.size+ys.size))=true)(h1:xs.size<=sizeLine)(h2:xs.size+ys.size<=sizeLine+1) :
  Meets (Builtin.«list.extend» ⟨[.ref l,.ref b],[]⟩) (fun _ R s=>s.heap.get? l=some {cls:=.type "list",dict:=none,data:=.seq xs n,slots:=#[]}/\s.heap.get? b=some {cls:=.type "tuple",dict:=dct,data:=.seq ys m,slots:=sl}/\
   R (.ok (.ret Value.none)) {s with heap:=s.heap.update l (Obj.mapSeq fun x=>x++ys),toks:=s.toks}):=by
 refine Meets.of_wp fun prog w A R s h=>?_
 obtain⟨hp,g,d,tk,os⟩:=s
 obtain⟨hl,hb,hR⟩:=h
 have f1:=idx_int
 have f2:=sub_tuple_tuple
 have f3:=sub_list_list
 have f4:=sub_tuple_list
 have f5:=sub_list_tuple
 have hz':(xs++ys).size<=sizeLine+1:=by rw[Array.size_append];exact h2
 wp_walk using(wpAny_updateSeq hl rfl (hz:=h1) (_hz':=hz')),(wpAny_loadPart' hl),(wpAny_loadPart' hb)
 exact⟨_,rfl,hR⟩
end PySem
namespace L2
open PySem PySem.Spec PyProof.Rows
inductive zzx(x:V)(vs:List V)(H:Hp)(Q:VK):Prop|I:∀l b xs zs,x=.ref l->vs=[.ref b]->H l=some (.lst xs)->(H b=some (.lst zs)\/H b=some (.tup zs))->xs.length+zs.length<=sizeLine->Q .non (upd H l (.lst (xs++zs)))->zzx x vs H Q
theorem zfh{X:Cx}:MtM X "list.extend" zzx:=by
 intro pins s σ H x vs v us Q I rx rv h
 obtain⟨l,b,xs,zs,rfl,rfl,hH,hB,hz,q⟩:=h
 rcases hB with hB|hB
 ·exact zyl pins s σ H _ _ v us Q I rx rv ⟨l,b,xs,zs,rfl,rfl,hH,hB,hz,q⟩
 cases rx
 obtain⟨u,rfl,ru⟩:=rv.one
 cases ru
 obtain⟨z,its,n,r,hl,e⟩:=I.lstM hH
 obtain⟨z2,its2,r2,⟨c2,d2,t2,sl2⟩,e2,hc2,n2,hd2⟩:=(show zbr X.prog X.w H s.heap b (.tup zs)from I.hok b _ hB)
 have hc3:c2=.type "tuple":=hc2
 have hd3:t2=.seq its2.toArray n2:=hd2
 subst hc3
 subst hd3
 have hl2:=r2.length
 have hsz:its.toArray.size+its2.toArray.size<=sizeLine:=by rw[List.size_toArray,List.size_toArray];omega
 have hlong:¬(!its.toArray.isEmpty&&Builtin.List.listTooLong (its.toArray.size+its2.toArray.size))=true:=by rw[zpq hsz,Bool.and_false];exact bFt
 refine call_meets F.slot_list_extend ⟨_,e,rfl⟩ F.entry_list_extend (F.args_list_extend_2 _ _) (zAG l its.toArray n b its2.toArray n2 d2 sl2 hlong (by rw[List.size_toArray];omega) (by omega)) ⟨e,e2,?_⟩
 refine⟨.non,_,I.lset (its':=its++its2) hH e (by simp) (r.append r2) (by rw[lEa];omega),rfl,q⟩
def MEnt(e:DictEntry)(kv:Int×V):Prop:=∃t,e.key=.int kv.1 t/\e.hash=hashInt kv.1/\zZ kv.2 e.val
def MDict(K:Fg)(a:Addr)(kvs:List (Int×V)):Prop:=
 ∃(es:Array DictEntry) (ep:Nat),K.lookup a=some ⟨.type "dict",none,.dict es ep,#[]⟩/\Paired MEnt es.toList kvs/\(kvs.map (·.1)).Nodup
theorem zxi{prog:Program}{w:World}{es:List DictEntry}{kvs:List (Int×V)}(h:Paired MEnt es kvs) :
  ∃vs:List (Int×Value),Pairs (PySem.intKind prog w) es vs/\vs.map (·.1)=kvs.map (·.1)/\(∀e,e∈es->∃k:Int,(PySem.intKind prog w).is k e.key=true/\e.hash=(PySem.intKind prog w).hash k)/\
   ∀k v,valV kvs k=some v->∃u,valueAt vs k=some u/\zZ v u:=by
 induction h with
 | nil=>exact⟨[],.nil,rfl,fun e he=>(by cases he),fun k v e=>(by cases e)⟩
 | @cons e kv es kvs h1 t ih=>
  obtain⟨vs,p,m,ks,look⟩:=ih
  obtain⟨tk,h1,h2,h3⟩:=h1
  have his:(PySem.intKind prog w).is kv.1 e.key=true:=by rw[h1];simp[PySem.intKind,Value.isInt]
  refine⟨(kv.1,e.val)::vs,.cons his rfl p,by rw[List.map_cons,List.map_cons,m],fun e' he'=>?_,fun k v e2=>?_⟩
  ·rcases List.mem_cons.mp he' with rfl|he'
   ·exact⟨kv.1,his,h2⟩
   ·exact ks e' he'
  ·by_cases c:kv.1=k
   ·rw[zi6 c]at e2
    cases e2
    exact⟨e.val,by simp[valueAt,List.find?_cons,c],h3⟩
   ·rw[zi7 c]at e2
    obtain⟨u,e3,r⟩:=look k v e2
    exact⟨u,by simpa[valueAt,List.find?_cons,c]using e3,r⟩
inductive rIxM(K:Fg)(x y:V)(H:Hp)(Q:VK):Prop|I:∀p kvs i v,x=.ref p->y=.int i->MDict K p kvs->valV kvs i=some v->Q v H->rIxM K x y H Q
theorem zzy{X:Cx}:IxR X (rIxM X.K):=by
 intro value slice pins s σ H x y v u Q I rx ry h hs
 obtain⟨p,kvs,i,z,rfl,rfl,⟨es,ep,hk,hp,hn⟩,he,q⟩:=h
 cases rx
 obtain⟨t,rfl⟩:=ry
 obtain⟨vs,h1,h2,h3,h4⟩:=zxi (prog:=X.prog) (w:=X.w) hp
 obtain⟨u,hu,ru⟩:=h4 i z he
 have dd:s.heap.DictOf (PySem.intKind X.prog X.w) p vs:=⟨_,es,ep,I.kIn p _ hk,⟨rfl,rfl,rfl⟩,rfl,fun e he=>h3 e (by simpa using he),h1,by rw[h2];exact hn⟩
 have hi:(PySem.intKind X.prog X.w).is i (.int i t)=true:=by simp[PySem.intKind,Value.isInt]
 refine subscriptTail_builtinR (x:=u) dd.mapOf.typeIs slot_dict_getitem.lookup (wpAny_getItem_of hi dd.mapOf hu ⟨rfl,z,H,I.tok _,ru,q⟩) hs
def hide(H:Hp)(l:Addr):Hp:=fun b=>if b=l then none else H b
theorem zj2{H:Hp}{l:Addr}:hide H l l=none:=if_pos rfl
theorem zbV{H:Hp}{l b:Addr}(h:b≠l):hide H l b=H b:=if_neg h
theorem zm5{H:Hp}{l b:Addr}{o:HO}(h:hide H l b=some o):b≠l/\H b=some o:=by
 by_cases e:b=l
 ·subst e;rw[zj2]at h;cases h
 ·exact⟨e,by rw[zbV e]at h;exact h⟩
inductive tHide(l:Addr)(t:TE)(σ:St)(H:Hp)(Q:VK):Prop|I:∀xs,H l=some (.lst xs)->(t σ (hide H l) fun v H'=>H' l=none->Q v (upd H' l (.lst xs)))->tHide l t σ H Q
theorem zAH{X:Cx}{e:Expr}{t:TE}(h:PE X e t):PE X e (fun σ H Q=>∃l,tHide l t σ H Q):=by
 intro pins s σ H Q I ⟨l,xs,hl,q⟩
 obtain⟨z,its,n,r,g⟩:=(show zbr X.prog X.w H s.heap l (.lst xs)from I.hok l _ hl)
 have nf:l∉X.fs:=fun hb=>by
  obtain⟨_,o,e,_⟩:=I.ok.funs.mem hb
  have:=I.base.free l o e (I.ok.frf l hb) fun c=>I.ok.exfs l c hb
  rw[hl]at this;cases this
 have nl:l≠X.env.locals:=fun c=>by rw[c,I.free]at hl;cases hl
 have I1:Inv X (pins++[(l,{cls:=.type "list",data:=.seq its.toArray n})]) σ (hide H l) s:=by
  refine⟨I.ok,I.os,I.bare,⟨I.base.keep,I.base.slot,fun b o e n2 x=>?_,I.base.there,fun b ys e=>?_,fun b o u e=>?_,fun b ps e=>?_⟩,I.loc,I.cell,?_,fun x c e=>?_,fun p hp=>?_,fun a o e=>?_,I.len⟩
  ·by_cases c:b=l
   ·rw[c];exact zj2
   ·rw[zbV c];exact I.base.free b o e n2 x
  ·have:=I.base.tups b ys e
   rw[zbV (zI this hl (by intro c;cases c))];exact this
  ·have:=I.base.frzs b o u e
   rw[zbV (zI this hl (by intro c;cases c))];exact this
  ·obtain⟨more,this⟩:=I.base.tbls b ps e
   exact⟨more,by rw[zbV (zI this hl (by intro c;cases c))];exact this⟩
  ·rw[zbV (fun c=>nl c.symm)];exact I.free
  ·have:=I.freeC x c e
   rw[zbV (fun d=>by rw[d,hl]at this;cases this)];exact this
  ·rcases List.mem_append.mp hp with hp|hp
   ·obtain⟨p1,p2,p3⟩:=I.pin p (List.mem_append_left _ hp)
    exact⟨p1,by rw[zbV (fun d=>by rw[d,hl]at p2;cases p2)];exact p2,p3⟩
   rcases List.mem_append.mp hp with hp|hp
   ·obtain⟨p1,p2,p3⟩:=I.pin p (List.mem_append_right _ hp)
    exact⟨p1,by rw[zbV (fun d=>by rw[d,hl]at p2;cases p2)];exact p2,p3⟩
   ·cases List.mem_singleton.mp hp
    exact⟨g,zj2,nl,nf,fun v d=>by cases d⟩
  ·obtain⟨ne,e⟩:=zm5 e
   refine(I.hok a o e).stay (fun b u _ d=>d) (fun b d=>?_) fun b ys d=>?_
   ·rw[zbV (zI d hl (by intro c;cases c))];exact d
   ·rw[zbV (zI d hl (by intro c;cases c))];exact d
 refine thn (h _ s σ (hide H l) _ I1 q) fun u s2 ⟨v,H2,I2,rv,q2⟩=>?_
 obtain⟨p1,p2,_⟩:=I2.pin (l,{cls:=.type "list",data:=.seq its.toArray n}) (List.mem_append_right _ (List.mem_append_right _ (List.mem_singleton.mpr rfl)))
 refine⟨v,upd H2 l (.lst xs),?_,rv,q2 p2⟩
 have I3:=I2.unpinned
 refine⟨I3.ok,I3.os,I3.bare,⟨I3.base.keep,I3.base.slot,fun b o e n2 x=>?_,I3.base.there,fun b ys e=>?_,fun b o u e=>?_,fun b ps e=>?_⟩,I3.loc,I3.cell,?_,fun x c e=>?_,fun p hp=>?_,fun a o e=>?_,I3.len⟩
 ·by_cases c:b=l
  ·have:=I.base.free b o e n2 x
   rw[c,hl]at this;cases this
  ·rw[zf c];exact I3.base.free b o e n2 x
 ·rw[zf (zI (I.base.tups b ys e) hl (by intro c;cases c))];exact I3.base.tups b ys e
 ·rw[zf (zI (I.base.frzs b o u e) hl (by intro c;cases c))];exact I3.base.frzs b o u e
 ·obtain⟨m,this⟩:=I.base.tbls b ps e
  rw[zf (zI this hl (by intro c;cases c))];exact I3.base.tbls b ps e
 ·rw[zf (fun c=>nl c.symm)];exact I3.free
 ·have:=I.freeC x c e
  rw[zf (fun d=>by rw[d,hl]at this;cases this)];exact I3.freeC x c e
 ·obtain⟨g1,g2,g3⟩:=I3.pin p hp
  obtain⟨k1,k2,k3⟩:=I.pin p hp
  exact⟨g1,by rw[zf (fun d=>by rw[d,hl]at k2;cases k2)];exact g2,g3⟩
 ·by_cases c:a=l
  ·rw[c]at e⊢
   rw[zd]at e
   cases e
   exact⟨z,its,n,r,p1⟩
  ·rw[zf c]at e
   refine(I3.hok a o e).stay (fun b u _ d=>d) (fun b d=>?_) fun b ys d=>?_
   ·rw[zf (fun c=>by rw[c,p2]at d;cases d)];exact d
   ·rw[zf (fun c=>by rw[c,p2]at d;cases d)];exact d
section
variable {X:Cx}
inductive ipC(C:Int->Int->Prop)(f:Int->Int->Int)(x y:V)(H:Hp)(Q:VK):Prop|I:∀i j,x=.int i->y=.int j->C i j->Q (.int (f i j)) H->ipC C f x y H Q
theorem zAI:PIp X .Mult (ipC CMulB fun i j=>i*j):=by
 intro pins s σ H x y v u Q I r1 r2 h
 obtain⟨i,j,rfl,rfl,hc,q⟩:=h
 obtain⟨t,rfl⟩:=r1
 obtain⟨t',rfl⟩:=r2
 exact imul_int ⟨.int _,H,I.tok _,⟨_,rfl⟩,q⟩ (IntMulOk.of_le (nLr _) (nLr _) hc)
theorem zzz(B:Big X):PIp X .FloorDiv (ipC (fun _ j=>0<j) fun i j=>i/j):=by
 intro pins s σ H x y v u Q I r1 r2 h
 obtain⟨i,j,rfl,rfl,hc,q⟩:=h
 obtain⟨t,rfl⟩:=r1
 obtain⟨t',rfl⟩:=r2
 have h1:(0:Int)<j:=hc
 exact ifloordiv_int (by omega) (by rw[Int.fdiv_eq_ediv_of_nonneg i (by omega)];exact⟨.int _,H,I.tok _,⟨_,rfl⟩,q⟩) (.inr (I.pylong B))
theorem ztZ(B:Big X):OpR X (binaryOp .FloorDiv) (rI (fun _ j=>j≠0) fun i j=>.int (i.fdiv j)):=by
 intro pins s σ H x y v u Q I rx ry h
 obtain⟨i,j,rfl,rfl,hc,q⟩:=h
 obtain⟨t,rfl⟩:=rx
 obtain⟨t',rfl⟩:=ry
 exact floordiv_int hc ⟨.int _,H,I.tok _,⟨_,rfl⟩,q⟩ (.inr (I.pylong B))
theorem zxj:zhw X (.type "dict") (fun xs H Q=>∃(a:Addr) (kvs:List (Key×V)),xs=[.ref a]/\H a=some (.dK kvs)/\∀p,H p=none->Q (.ref p) (upd H p (.dK kvs))):=by
 intro pins s σ H xs us Q I r h
 obtain⟨a,kvs,rfl,e,q⟩:=h
 obtain⟨u,rfl,ru⟩:=vals1 r
 cases ru
 exact zzo I (.inl e) fun p s' hp I'=>⟨.ref p,_,I',rfl,q p hp⟩
end
theorem zyv{d:Addr}{o:Obj}{kvs:List (Key×V)}{g:TG}{tb:TS}{D:Ends}{σ:St}{H:Hp}(Pv:Nat->St->Hp->Prop)(h0:Pv 0 σ H)(hl :∀i σ H,i<=kvs.length->Pv i σ H->H d=some (.frz o (.dK kvs)))
  (hs :∀i k v T σ H,kvs[i]? = some (k,v)->H T=none->Pv i σ H->g (.ref T) σ (upd H T (.tup [kV k,v])) fun σ2 H2=>tb {D with nx:=Pv (i+1),ct:=Pv (i+1),bk:=D.nx} σ2 H2) (hd :∀σ H,Pv kvs.length σ H->D.nx σ H) :
  ∃W:Nat->Nat->St->Hp->Prop,(∃m,W 0 m σ H)/\∀i m σ H,W i m σ H->
   ((Iti d o kvs).stop i H/\D.nx σ H)\/((Iti d o kvs).go i H/\∃N:St->Hp->Prop,(∀σ' H',N σ' H'->∃m',m'<m/\W (i+1) m' σ' H')/\∀x H',(Iti d o kvs).yld i H x H'->g x σ H' fun σ2 H2=>tb {D with nx:=N,ct:=N,bk:=D.nx} σ2 H2):=by
 refine⟨fun i m σ H=>m=kvs.length-i/\i<=kvs.length/\Pv i σ H,⟨kvs.length,by simp,Nat.zero_le _,h0⟩,?_⟩
 rintro i m σ H ⟨rfl,hi,p⟩
 have q:=hl i σ H hi p
 by_cases hlt:i<kvs.length
 ·refine .inr ⟨⟨q,hlt⟩,Pv (i+1),fun σ' H' p'=>⟨kvs.length-(i+1),by omega,rfl,hlt,p'⟩,fun x H' y=>?_⟩
  obtain⟨T,k,v,hk,rfl,hT,rfl⟩:=y
  exact hs i k v T σ H hk hT p
 ·have e:i=kvs.length:=by omega
  subst e
  exact .inl ⟨⟨q,nLr _⟩,hd σ H p⟩
theorem zwK{K:Fg}{a b:Addr}{xs ys:List V}{g:TG}{tb:TS}{D:Ends}{σ:St}{H:Hp}(hlen:xs.length=ys.length)(Pv:Nat->St->Hp->Prop)(h0:Pv 0 σ H)(hl :∀i σ H,i<=xs.length->Pv i σ H->SqL K H a xs/\SqL K H b ys)
  (hs :∀i x y T σ H,xs[i]? = some x->ys[i]? = some y->H T=none->Pv i σ H->g (.ref T) σ (upd H T (.tup [x,y])) fun σ2 H2=>tb {D with nx:=Pv (i+1),ct:=Pv (i+1),bk:=D.nx} σ2 H2) (hd :∀σ H,Pv xs.length σ H->D.nx σ H) :
  ∃W:Nat->Nat->St->Hp->Prop,(∃m,W 0 m σ H)/\∀i m σ H,W i m σ H->
   ((Itz K a b).stop i H/\D.nx σ H)\/((Itz K a b).go i H/\∃N:St->Hp->Prop,(∀σ' H',N σ' H'->∃m',m'<m/\W (i+1) m' σ' H')/\∀x H',(Itz K a b).yld i H x H'->g x σ H' fun σ2 H2=>tb {D with nx:=N,ct:=N,bk:=D.nx} σ2 H2):=by
 refine⟨fun i m σ H=>m=xs.length-i/\i<=xs.length/\Pv i σ H,⟨xs.length,by simp,Nat.zero_le _,h0⟩,?_⟩
 rintro i m σ H ⟨rfl,hi,p⟩
 obtain⟨q1,q2⟩:=hl i σ H hi p
 by_cases hlt:i<xs.length
 ·refine .inr ⟨⟨xs,ys,xs[i],ys[i]'(by omega),q1,q2,by simp[hlt],by simp[show i<ys.length by omega]⟩,Pv (i+1),fun σ' H' p'=>⟨xs.length-(i+1),by omega,rfl,hlt,p'⟩,fun v H' y=>?_⟩
  obtain⟨T,x,y,rfl,hT,rfl,h1,h2⟩:=y
  exact hs i x y T σ H (h1 xs q1) (h2 ys q2) hT p
 ·have e:i=xs.length:=by omega
  subst e
  exact .inl ⟨⟨xs,ys,q1,q2,.inl (nLr _)⟩,hd σ H p⟩
theorem zzA{K:Fg}{a:Addr}{xs:List V}{g:TG}{tb:TS}{D:Ends}{σ:St}{H:Hp}(Pv:Nat->St->Hp->Prop)(h0:Pv 0 σ H)(hl :∀i σ H,i<=xs.length->Pv i σ H->SqL K H a xs)
  (hs :∀i x T σ H,xs[i]? = some x->H T=none->Pv i σ H->g (.ref T) σ (upd H T (.tup [.int (i:Int),x])) fun σ2 H2=>tb {D with nx:=Pv (i+1),ct:=Pv (i+1),bk:=D.nx} σ2 H2) (hd :∀σ H,Pv xs.length σ H->D.nx σ H) :
  ∃W:Nat->Nat->St->Hp->Prop,(∃m,W 0 m σ H)/\∀i m σ H,W i m σ H->
   ((Ite K a).stop i H/\D.nx σ H)\/((Ite K a).go i H/\∃N:St->Hp->Prop,(∀σ' H',N σ' H'->∃m',m'<m/\W (i+1) m' σ' H')/\∀x H',(Ite K a).yld i H x H'->g x σ H' fun σ2 H2=>tb {D with nx:=N,ct:=N,bk:=D.nx} σ2 H2):=by
 refine⟨fun i m σ H=>m=xs.length-i/\i<=xs.length/\Pv i σ H,⟨xs.length,by simp,Nat.zero_le _,h0⟩,?_⟩
 rintro i m σ H ⟨rfl,hi,p⟩
 have q:=hl i σ H hi p
 by_cases hlt:i<xs.length
 ·refine .inr ⟨⟨xs,xs[i],q,by simp[hlt]⟩,Pv (i+1),fun σ' H' p'=>⟨xs.length-(i+1),by omega,rfl,hlt,p'⟩,fun v H' y=>?_⟩
  obtain⟨T,x,rfl,hT,rfl,hx⟩:=y
  exact hs i x T σ H (hx xs q) hT p
 ·have e:i=xs.length:=by omega
  subst e
  exact .inl ⟨⟨xs,q,nLr _⟩,hd σ H p⟩
end L2
namespace Sp
open Vagraa (Frac frac zero one isZero weight bits)
def fr(q:Rat):Frac:=⟨q.num,q.den⟩
theorem zq8(n:Int)(d:Nat):frac n d=fr (mkRat n d):=by
 unfold frac fr
 rw[Rat.num_mkRat,Rat.den_mkRat]
 split
 ·rfl
 ·rw[Nat.gcd_comm d]
theorem zBK:one=fr 1:=rfl
theorem zk2(a b:Rat):Vagraa.add (fr a) (fr b)=fr (a+b):=by
 unfold Vagraa.add
 rw[zq8,Rat.add_def']
 rfl
theorem zt0(a:Rat):Vagraa.neg (fr a)=fr (-a):=rfl
theorem zqd(a b:Rat):Vagraa.sub (fr a) (fr b)=fr (a-b):=by
 unfold Vagraa.sub
 rw[zt0,zk2,Rat.sub_eq_add_neg]
theorem zm6(a b:Rat):Vagraa.mul (fr a) (fr b)=fr (a*b):=by
 unfold Vagraa.mul
 rw[zq8,Rat.mul_def']
 rfl
theorem zBL(a:Rat):Vagraa.inv (fr a)=fr a⁻¹:=by
 unfold Vagraa.inv
 show(if a.num<0 then(⟨-(a.den:Int),a.num.natAbs⟩:Frac)else if a.num=0 then zero else⟨a.den,a.num.natAbs⟩)=⟨a⁻¹.num,a⁻¹.den⟩
 rw[Rat.num_inv,Rat.den_inv]
 split
 ·next h=>
  rw[Int.sign_eq_neg_one_of_neg h,if_neg (by omega)]
  congr 1
  omega
 ·next h=>
  split
  ·next h2=>rw[h2,Int.sign_zero,Int.zero_mul];rfl
  ·next h2=>rw[Int.sign_eq_one_of_pos (by omega),Int.one_mul]
theorem zm7(a b:Rat):Vagraa.div (fr a) (fr b)=fr (a/b):=by
 unfold Vagraa.div
 rw[zBL,zm6,Rat.div_def]
theorem zj3(a:Rat):isZero (fr a)=decide (a=0):=by
 unfold isZero
 show decide (a.num=0)=_
 rw[decide_eq_decide]
 exact Rat.num_eq_zero
theorem zCc(a b:Rat):Vagraa.lt (fr a) (fr b)=decide (a<b):=by
 unfold Vagraa.lt
 rw[decide_eq_decide]
 exact(Rat.lt_iff a b).symm
def wt(q:Rat):Nat:=weight (fr q)
open VagraLine (Line Code at_)
theorem zbh(l:List Rat)(i:Nat):at_ (l.map fr) i=fr (l.getD i 0):=by
 unfold at_
 rw[gDm,gDm,gEm]
 cases l[i]?<;>rfl
theorem zq3(l:List Rat)(i:Nat)(a:Rat):(l.map fr).set i (fr a)=(l.set i a).map fr:=by
 rw[List.map_set]
end Sp
namespace Sp
open Vagraa (Frac frac zero one isZero weight bits)
open VagraLine (Line Code at_)
open Vagraf
def zfi(f:Nat->Rat):Nat->Rat
 | 0=>0
 | n+1=>zfi f n+f n
theorem zkp{f g:Nat->Rat} :∀{n:Nat},(∀i,i<n->f i=g i)->zfi f n=zfi g n
 | 0,_=>rfl
 | n+1,h=>by
  show zfi f n+f n=zfi g n+g n
  rw[zkp (n:=n) (fun i hi=>h i (by omega)),h n (by omega)]
theorem zxk{f:Nat->Rat}{n:Nat}(h :∀i,i<n->f i=0):zfi f n=0:=by
 induction n with
 | zero=>rfl
 | succ n ih=>
  show zfi f n+f n=0
  rw[ih (fun i hi=>h i (by omega)),h n (by omega),Rat.add_zero]
theorem zm8{f g:Nat->Rat}{p:Nat}{x:Rat}(hp:f p=g p+x)(ho :∀i,i≠p->f i=g i) :∀n,zfi f n=zfi g n+(if p<n then x else 0)
 | 0=>by
  show(0:Rat)=0+(if p<0 then x else 0)
  rw[if_neg (by omega),Rat.add_zero]
 | n+1=>by
  show zfi f n+f n=zfi g n+g n+_
  rw[zm8 hp ho n]
  by_cases e:n=p
  ·subst e
   rw[hp,if_neg (by omega),if_pos (by omega)]
   grind
  ·rw[ho n e]
   by_cases e2:p<n
   ·rw[if_pos e2,if_pos (by omega)];grind
   ·rw[if_neg e2,if_neg (by omega)];grind
def get(l:List Rat)(i:Nat):Rat:=l.getD i 0
theorem zwL(l:List Rat)(i:Nat)(a:Rat)(j:Nat):get (l.set i a) j=if j=i/\i<l.length then a else get l j:=by
 unfold get
 rw[gDm,gDm,List.getElem?_set]
 by_cases e:i=j
 ·subst e
  by_cases h:i<l.length
  ·simp[h]
  ·simp[h]
 ·have:¬j=i:=fun q=>e q.symm
  simp[e,this]
def zbW(l:List Rat)(i:Nat)(a:Rat):List Rat:=l.set i (get l i+a)
theorem zpr(l:List Rat)(i:Nat)(a:Rat):addAt (l.map fr) i (fr a)=(zbW l i a).map fr:=by
 unfold addAt zbW
 rw[zbh,zk2,List.map_set]
 rfl
theorem zew(l:List Rat)(i:Nat)(a:Rat):(zbW l i a).length=l.length:=List.length_set
theorem zlO(l:List Rat)(i:Nat)(a:Rat)(j:Nat)(hi:i<l.length):get (zbW l i a) j=if j=i then get l j+a else get l j:=by
 unfold zbW
 rw[zwL]
 by_cases e:j=i
 ·subst e;simp[hi]
 ·simp[e]
def zfj(s:Rat)(ps:List (Nat×Rat))(l:List Rat):List Rat:=ps.foldl (fun l p=>zbW l p.1 (s*p.2)) l
def frP(ps:List (Nat×Rat)):List (Nat×Frac):=ps.map fun p=>(p.1,fr p.2)
theorem zwM(s:Rat) :∀(ps:List (Nat×Rat)) (l:List Rat),pass (fr s) (frP ps) (l.map fr)=(zfj s ps l).map fr
 | [],l=>rfl
 | p::ps,l=>by
  show pass (fr s) (frP ps) (addAt (l.map fr) p.1 (Vagraa.mul (fr s) (fr p.2)))=(zfj s ps (zbW l p.1 (s*p.2))).map fr
  rw[zm6,zpr,zwM s ps]
theorem zi8(s:Rat) :∀(ps:List (Nat×Rat)) (l:List Rat),(zfj s ps l).length=l.length
 | [],l=>rfl
 | p::ps,l=>by
  show(zfj s ps (zbW l p.1 (s*p.2))).length=_
  rw[zi8 s ps,zew]
theorem zvx(l:List Rat)(i:Nat):zbW l i 0=l:=by
 unfold zbW get
 apply List.ext_getElem?
 intro j
 rw[List.getElem?_set]
 by_cases e:i=j
 ·subst e
  by_cases h:i<l.length
  ·simp[h,Rat.add_zero]
  ·simp[h]
 ·simp[e]
theorem zqe :∀(ps:List (Nat×Rat)) (l:List Rat),zfj 0 ps l=l
 | [],l=>rfl
 | p::ps,l=>by
  show zfj 0 ps (zbW l p.1 (0*p.2))=l
  rw[Rat.zero_mul,zvx,zqe ps]
def zex(t:List (List (Nat×Rat)))(l:List Rat):List Rat:=(t.zipIdx.reverse).foldl (fun l x=>zfj (get l x.2) x.1 l) l
theorem zzB(t:List (List (Nat×Rat)))(l:List Rat):sweep (t.map frP) (l.map fr)=(zex t l).map fr:=by
 unfold sweep zex
 have e:(t.map frP).zipIdx.reverse=t.zipIdx.reverse.map fun x=>(frP x.1,x.2):=by
  rw[List.zipIdx_map,List.map_reverse]
  rfl
 rw[e]
 generalize t.zipIdx.reverse=r
 induction r generalizing l with
 | nil=>rfl
 | cons x r ih=>
  rw[List.map_cons,List.foldl_cons,List.foldl_cons]
  have e1:(if isZero (at_ (l.map fr) x.2)=true then l.map fr else pass (at_ (l.map fr) x.2) (frP x.1) (l.map fr))=(zfj (get l x.2) x.1 l).map fr:=by
   rw[zbh,zj3]
   by_cases h:l.getD x.2 0=0
   ·have h2:get l x.2=0:=h
    rw[h,h2,zqe]
    simp
   ·rw[decide_eq_false h,zwM]
    simp[get]
  show List.foldl _ (if isZero (at_ (l.map fr) x.2)=true then l.map fr else pass (at_ (l.map fr) x.2) (frP x.1) (l.map fr)) _=_
  rw[e1]
  exact ih _
abbrev zt:=Rat×(Nat->Rat)
def dz:zt:=(0,fun _=>0)
def dadd(x y:zt):zt:=(x.1+y.1,fun k=>x.2 k+y.2 k)
def dsub(x y:zt):zt:=(x.1-y.1,fun k=>x.2 k-y.2 k)
def dmul(x y:zt):zt:=(x.1*y.1,fun k=>x.2 k*y.1+x.1*y.2 k)
def ddiv(x y:zt):zt:=(x.1/y.1,fun k=>x.2 k/y.1-x.1/y.1/y.1*y.2 k)
def dneg(x:zt):zt:=(-x.1,fun k=>-x.2 k)
def par(ps:List Rat)(j:Nat):zt:=(get ps j,fun k=>if j=k then 1 else 0)
def dget(l:List zt)(i:Nat):zt:=l.getD i dz
def ev(ps:List Rat)(l:List zt):Line->zt
 | .input j=>par ps j
 | .num a=>(mkRat a.num a.den,fun _=>0)
 | .add i j=>dadd (dget l i) (dget l j)
 | .sub i j=>dsub (dget l i) (dget l j)
 | .mul i j=>dmul (dget l i) (dget l j)
 | .div i j=>ddiv (dget l i) (dget l j)
 | .neg i=>dneg (dget l i)
def zc4(l:List zt)(v:Rat):Line->List (Nat×Rat)
 | .input _=>[]
 | .num _=>[]
 | .add i j=>[(i,1),(j,1)]
 | .sub i j=>[(i,1),(j,-1)]
 | .mul i j=>[(i,(dget l j).1),(j,(dget l i).1)]
 | .div i j=>[(i,1/(dget l j).1),(j,-(v/(dget l j).1))]
 | .neg i=>[(i,-1)]
def dotP(ps:List (Nat×Rat))(D:Nat->Rat):Rat:=match ps with
 | []=>0
 | p::r=>p.2*D p.1+dotP r D
def isIn:Line->Bool
 | .input _=>true
 | _=>false
theorem zvy(ps:List Rat)(l:List zt)(x:Line)(h:isIn x=false)(k:Nat) :
  (ev ps l x).2 k=dotP (zc4 l (ev ps l x).1 x) fun i=>(dget l i).2 k:=by
 cases x with
 | input j=>cases h
 | num a=>rfl
 | add i j=>show(dget l i).2 k+(dget l j).2 k=1*(dget l i).2 k+(1*(dget l j).2 k+0);grind
 | sub i j=>show(dget l i).2 k-(dget l j).2 k=1*(dget l i).2 k+(-1*(dget l j).2 k+0);grind
 | mul i j=>show(dget l i).2 k*(dget l j).1+(dget l i).1*(dget l j).2 k=(dget l j).1*(dget l i).2 k+((dget l i).1*(dget l j).2 k+0);grind
 | div i j=>show(dget l i).2 k/(dget l j).1-(dget l i).1/(dget l j).1/(dget l j).1*(dget l j).2 k=1/(dget l j).1*(dget l i).2 k+(-((dget l i).1/(dget l j).1/(dget l j).1)*(dget l j).2 k+0);grind
 | neg i=>show -(dget l i).2 k = -1*(dget l i).2 k+0;grind
def val(l:List zt):List Rat:=l.map (·.1)
theorem zAJ(l:List zt)(i:Nat):get (val l) i=(dget l i).1:=by
 unfold get val dget
 rw[gDm,gDm,gEm]
 cases l[i]?<;>rfl
theorem zdQ(l:List zt)(i:Nat):at_ ((val l).map fr) i=fr (dget l i).1:=by rw[zbh];exact congrArg fr (zAJ l i)
theorem zvz(l:List zt)(v:Rat)(x:Line):partials ((val l).map fr) (fr v) x=frP (zc4 l v x):=by
 cases x with
 | input j=>rfl
 | num a=>rfl
 | add i j=>rfl
 | sub i j=>rfl
 | mul i j=>
  show [(i,at_ ((val l).map fr) j),(j,at_ ((val l).map fr) i)]=_
  rw[zdQ,zdQ];rfl
 | div i j=>
  show [(i,Vagraa.div one (at_ ((val l).map fr) j)),(j,Vagraa.neg (Vagraa.div (fr v) (at_ ((val l).map fr) j)))]=_
  rw[zdQ,zBK,zm7,zm7,zt0];rfl
 | neg i=>rfl
end Sp
namespace Sp
open Vagraa (Frac frac zero one isZero weight bits)
open VagraLine (Line Code at_)
open Vagraf
def stage(inp:Nat->Bool)(D:Nat->Rat)(l:List Rat)(i n:Nat):Rat:=zfi (fun j=>if j<i\/inp j=true then get l j*D j else 0) n
theorem zsh{inp:Nat->Bool}{D:Nat->Rat}{l:List Rat}{i n p:Nat}{x:Rat}(hp:p<i)(hi:i<=n)(hl:l.length=n) :
  stage inp D (zbW l p x) i n=stage inp D l i n+x*D p:=by
 unfold stage
 rw[zm8 (f:=fun j=>if j<i\/inp j=true then get (zbW l p x) j*D j else 0) (g:=fun j=>if j<i\/inp j=true then get l j*D j else 0) (p:=p) (x:=x*D p) ?_ ?_ n,if_pos (by omega)]
 ·show(if p<i\/inp p=true then get (zbW l p x) p*D p else 0)=(if p<i\/inp p=true then get l p*D p else 0)+x*D p
  rw[if_pos (.inl hp),if_pos (.inl hp),zlO l p x p (by omega),if_pos rfl]
  grind
 ·intro j hj
  show(if j<i\/inp j=true then get (zbW l p x) j*D j else 0)=(if j<i\/inp j=true then get l j*D j else 0)
  rw[zlO l p x j (by omega),if_neg hj]
theorem zqf{inp:Nat->Bool}{D:Nat->Rat}{i n:Nat}{s:Rat}(hi:i<=n) :∀(ps:List (Nat×Rat)) (l:List Rat),(∀p,p∈ps->p.1<i)->l.length=n->
  stage inp D (zfj s ps l) i n=stage inp D l i n+s*dotP ps D
 | [],l,_,_=>by
  show stage inp D l i n=stage inp D l i n+s*0
  rw[Rat.mul_zero,Rat.add_zero]
 | p::ps,l,h,hl=>by
  show stage inp D (zfj s ps (zbW l p.1 (s*p.2))) i n=stage inp D l i n+s*(p.2*D p.1+dotP ps D)
  rw[zqf hi ps _ (fun q hq=>h q (lMc _ hq)) (by rw[zew];exact hl),zsh (h p lMs) hi hl]
  grind
theorem zxl{inp:Nat->Bool}{D:Nat->Rat}{l:List Rat}{i n:Nat}(hi:i<n)(hin:inp i=false) :
  stage inp D l (i+1) n=stage inp D l i n+get l i*D i:=by
 unfold stage
 rw[zm8 (f:=fun j=>if j<i+1\/inp j=true then get l j*D j else 0) (g:=fun j=>if j<i\/inp j=true then get l j*D j else 0) (p:=i) (x:=get l i*D i) ?_ ?_ n,if_pos hi]
 ·show(if i<i+1\/inp i=true then get l i*D i else 0)=(if i<i\/inp i=true then get l i*D i else 0)+get l i*D i
  rw[if_pos (.inl (by omega)),if_neg (by rw[hin];simp)]
  grind
 ·intro j hj
  show(if j<i+1\/inp j=true then get l j*D j else 0)=(if j<i\/inp j=true then get l j*D j else 0)
  by_cases h:j<i
  ·rw[if_pos (.inl (by omega)),if_pos (.inl h)]
  ·by_cases h2:inp j=true
   ·rw[if_pos (.inr h2),if_pos (.inr h2)]
   ·rw[if_neg (by simp[h2];omega),if_neg (by simp[h2];omega)]
theorem zvA{inp:Nat->Bool}{D:Nat->Rat}{l:List Rat}{i n:Nat}(hin:inp i=true):stage inp D l (i+1) n=stage inp D l i n:=by
 unfold stage
 refine zkp fun j _=>?_
 by_cases h:j=i
 ·subst h;rw[if_pos (.inr hin),if_pos (.inr hin)]
 ·by_cases h2:inp j=true
  ·rw[if_pos (.inr h2),if_pos (.inr h2)]
  ·by_cases h3:j<i
   ·rw[if_pos (.inl (by omega)),if_pos (.inl h3)]
   ·rw[if_neg (by simp[h2];omega),if_neg (by simp[h2];omega)]
structure TapeOk(t:List (List (Nat×Rat)))(inp:Nat->Bool)(D:Nat->Rat):Prop where
 early :∀(i:Nat) (ps:List (Nat×Rat)),t[i]? = some ps->∀p:Nat×Rat,p∈ps->p.1<i
 none_ :∀(i:Nat) (ps:List (Nat×Rat)),t[i]? = some ps->inp i=true->ps=[]
 rule :∀(i:Nat) (ps:List (Nat×Rat)),t[i]? = some ps->inp i=false->D i=dotP ps D
theorem zqg{t:List (List (Nat×Rat))}{inp:Nat->Bool}{D:Nat->Rat}(T:TapeOk t inp D) :∀(i:Nat) (l:List Rat),i<=t.length->l.length=t.length->
  stage inp D (zex (t.take i) l) 0 t.length=stage inp D l i t.length/\(zex (t.take i) l).length=l.length
 | 0,l,_,_=>by
  rw[List.take_zero]
  exact⟨rfl,rfl⟩
 | i+1,l,hi,hl=>by
  obtain⟨ps,hps⟩ :∃ps,t[i]? = some ps:=⟨_,gge (by omega)⟩
  have e:t.take (i+1)=t.take i++[ps]:=by rw[List.take_add_one,hps];rfl
  have e2:zex (t.take (i+1)) l=zex (t.take i) (zfj (get l i) ps l):=by
   rw[e]
   unfold zex
   rw[List.zipIdx_append,List.reverse_append]
   have e3:(0+(t.take i).length)=i:=by rw[List.length_take];omega
   rw[e3]
   rfl
  have hl2:(zfj (get l i) ps l).length=t.length:=by rw[zi8];exact hl
  have ih:=zqg T i (zfj (get l i) ps l) (by omega) hl2
  rw[e2,ih.1,ih.2,zi8]
  refine⟨?_,rfl⟩
  cases h:inp i with
  | true=>
   have e4:=T.none_ i ps hps h
   subst e4
   rw[zvA h]
   rfl
  | false=>
   rw[zqf (by omega) ps l (T.early i ps hps) hl,zxl (by omega) h,T.rule i ps hps h]
theorem zvB{t:List (List (Nat×Rat))}{inp:Nat->Bool}{D:Nat->Rat}(T:TapeOk t inp D)(l:List Rat)(hl:l.length=t.length) :
  stage inp D (zex t l) 0 t.length=stage inp D l t.length t.length/\(zex t l).length=l.length:=by
 have h:=zqg T t.length l (nLr _) hl
 rw[List.take_length]at h
 exact h
def zfH(n:Nat)(ws:List (Nat×Rat)):List Rat:=ws.foldl (fun l w=>zbW l w.1 w.2) (List.replicate n 0)
theorem zzC(n:Nat)(ws:List (Nat×Rat)):seeds n (frP ws)=(zfH n ws).map fr:=by
 unfold seeds zfH
 have e:List.replicate n zero=(List.replicate n (0:Rat)).map fr:=by rw[List.map_replicate];rfl
 rw[e]
 generalize List.replicate n (0:Rat)=l
 induction ws generalizing l with
 | nil=>rfl
 | cons w ws ih=>
  show List.foldl _ (addAt (l.map fr) w.1 (fr w.2)) (frP ws)=_
  rw[zpr,ih]
  rfl
theorem zms(n:Nat)(ws:List (Nat×Rat)):(zfH n ws).length=n:=by
 unfold zfH
 have h :∀(ws:List (Nat×Rat)) (l:List Rat),(ws.foldl (fun l w=>zbW l w.1 w.2) l).length=l.length:=by
  intro ws
  induction ws with
  | nil=>intro l;rfl
  | cons w ws ih=>intro l;rw[List.foldl_cons,ih,zew]
 rw[h,List.length_replicate]
theorem zvC{inp:Nat->Bool}{D:Nat->Rat}{n:Nat}(ws:List (Nat×Rat))(h :∀w,w∈ws->w.1<n):stage inp D (zfH n ws) n n=dotP ws D:=by
 unfold zfH
 have g :∀(ws:List (Nat×Rat)) (l:List Rat),(∀w,w∈ws->w.1<n)->l.length=n->stage inp D (ws.foldl (fun l w=>zbW l w.1 w.2) l) n n=stage inp D l n n+dotP ws D:=by
  intro ws
  induction ws with
  | nil=>intro l _ _;show stage inp D l n n=stage inp D l n n+0;rw[Rat.add_zero]
  | cons w ws ih=>
   intro l hw hl
   rw[List.foldl_cons,ih _ (fun v hv=>hw v (lMc _ hv)) (by rw[zew];exact hl),zsh (hw w lMs) (nLr _) hl]
   show _=stage inp D l n n+(w.2*D w.1+dotP ws D)
   grind
 rw[g ws _ h List.length_replicate]
 have e:stage inp D (List.replicate n 0) n n=0:=by
  unfold stage
  refine zxk fun j hj=>?_
  have e1:get (List.replicate n 0) j=0:=by
   unfold get
   rw[gDm,List.getElem?_replicate]
   split<;>rfl
  rw[e1,Rat.zero_mul,ite_self]
 rw[e,Rat.zero_add]
def inAdd(g:List Rat)(x:Line×Rat):List Rat:=match x.1 with
 | .input k=>zbW g k x.2
 | _=>g
def byR(n:Nat)(c:Code)(l:List Rat):List Rat:=(c.zip l).foldl inAdd (List.replicate n 0)
theorem zt1(g:List Rat)(x:Line×Rat):(inAdd g x).length=g.length:=by
 obtain⟨a,b⟩:=x
 cases a<;>first|rfl|exact zew _ _ _
theorem zCd(n:Nat)(c:Code)(l:List Rat):byInput n c (l.map fr)=(byR n c l).map fr:=by
 unfold byInput byR
 have e:List.replicate n zero=(List.replicate n (0:Rat)).map fr:=by rw[List.map_replicate];rfl
 have e2:c.zip (l.map fr)=(c.zip l).map fun x=>(x.1,fr x.2):=by
  rw[List.zip_map_right]
  rfl
 rw[e,e2]
 generalize List.replicate n (0:Rat)=g
 generalize c.zip l=z
 induction z generalizing g with
 | nil=>rfl
 | cons x z ih=>
  rw[List.map_cons,List.foldl_cons,List.foldl_cons]
  obtain⟨a,b⟩:=x
  cases a with
  | input k=>
   show List.foldl _ (addAt (g.map fr) k (fr b)) _=_
   rw[zpr,ih]
   rfl
  | num a=>exact ih g
  | add i j=>exact ih g
  | sub i j=>exact ih g
  | mul i j=>exact ih g
  | div i j=>exact ih g
  | neg i=>exact ih g
theorem zia :∀(z:List (Line×Rat)) (g:List Rat),(z.foldl inAdd g).length=g.length
 | [],g=>rfl
 | x::z,g=>by rw[List.foldl_cons,zia z,zt1]
theorem zqh(n:Nat)(c:Code)(l:List Rat):(byR n c l).length=n:=by
 unfold byR
 rw[zia,List.length_replicate]
def inSum(k:Nat)(c:Code)(l:List Rat):Nat->Rat:=zfi fun j=>if c[j]? = some (.input k)then get l j else 0
theorem zyw{g:List Rat}{x:Line}{y:Rat}{k:Nat}(hin :∀j,x=.input j->j<g.length):get (inAdd g (x,y)) k=get g k+(if some x=some (.input k)then y else 0):=by
 cases x with
 | input j=>
  have hj:=hin j rfl
  show get (zbW g j y) k=_
  rw[zlO g j y k hj]
  by_cases e:k=j
  ·subst e;simp
  ·have e':¬j=k:=fun q=>e q.symm
   rw[if_neg e,if_neg (by simp[e']),Rat.add_zero]
 | num a=>show get g k=_;simp[Rat.add_zero]
 | add a b=>show get g k=_;simp[Rat.add_zero]
 | sub a b=>show get g k=_;simp[Rat.add_zero]
 | mul a b=>show get g k=_;simp[Rat.add_zero]
 | div a b=>show get g k=_;simp[Rat.add_zero]
 | neg a=>show get g k=_;simp[Rat.add_zero]
theorem zsS(n k:Nat):get (List.replicate n 0) k=0:=by
 unfold get
 rw[gDm,List.getElem?_replicate]
 split<;>rfl
theorem zAK(n k:Nat)(c:Code)(l:List Rat)(hl:l.length=c.length)(hin :∀j,Line.input j∈c->j<n):get (byR n c l) k=inSum k c l c.length:=by
 have h :∀i,i<=c.length->get (((c.take i).zip (l.take i)).foldl inAdd (List.replicate n 0)) k=inSum k c l i:=by
  intro i
  induction i with
  | zero=>
   intro _
   rw[List.take_zero,List.zip_nil_left]
   exact zsS n k
  | succ i ih=>
   intro hi
   obtain⟨x,hx⟩ :∃x,c[i]? = some x:=⟨_,gge (by omega)⟩
   obtain⟨y,hy⟩ :∃y,l[i]? = some y:=⟨_,gge (by omega)⟩
   have e1:c.take (i+1)=c.take i++[x]:=by rw[List.take_add_one,hx];rfl
   have e2:l.take (i+1)=l.take i++[y]:=by rw[List.take_add_one,hy];rfl
   have e3:get l i=y:=by unfold get;rw[gDm,hy];rfl
   rw[e1,e2,List.zip_append (by rw[List.length_take,List.length_take,hl]),List.foldl_append]
   show get (inAdd _ (x,y)) k=inSum k c l i+(if c[i]? = some (.input k)then get l i else 0)
   rw[zyw (fun j e=>?_),ih (by omega),hx,e3]
   rw[zia,List.length_replicate]
   subst e
   exact hin j (mge hx)
 have h2:=h c.length (nLr _)
 have e:l.take c.length=l:=by rw[<-hl,List.take_length]
 rw[List.take_length,e]at h2
 exact h2
end Sp
namespace Sp
open Vagraa (Frac frac zero one isZero weight bits)
open VagraLine (Line Code at_)
open Vagraf
def evs(ps:List Rat):List zt->Code->List zt
 | l,[]=>l
 | l,x::r=>evs ps (l++[ev ps l x]) r
theorem zlP(ps:List Rat) :∀(c d:Code) (l:List zt),evs ps l (c++d)=evs ps (evs ps l c) d
 | [],d,l=>rfl
 | x::c,d,l=>zlP ps c d (l++[ev ps l x])
theorem ziP(ps:List Rat) :∀(c:Code) (l:List zt),(evs ps l c).length=l.length+c.length
 | [],l=>rfl
 | x::c,l=>by
  show(evs ps (l++[ev ps l x]) c).length=_
  rw[ziP ps c,lEa,List.length_cons]
  simp only[List.length_cons,List.length_nil]
  omega
theorem ziQ(ps:List Rat) :∀(c:Code) (l:List zt),∃m,evs ps l c=l++m
 | [],l=>⟨[],by rw[List.append_nil];rfl⟩
 | x::c,l=>by
  obtain⟨m,e⟩:=ziQ ps c (l++[ev ps l x])
  exact⟨ev ps l x::m,by show evs ps (l++[ev ps l x]) c=_;rw[e,lAa];rfl⟩
theorem zak{l m:List zt}{i:Nat}(h:i<l.length):dget (l++m) i=dget l i:=by
 unfold dget
 rw[gDm,gDm,List.getElem?_append_left h]
theorem zdK{l:List zt}{x:zt}{m:List zt}:dget (l++x::m) l.length=x:=by
 unfold dget
 rw[gDm,List.getElem?_append_right (nLr _),Nat.sub_self]
 rfl
def Early(c:Code):Prop:=∀(i:Nat) (x:Line),c[i]? = some x->∀u,u∈x.uses->u<i
theorem zAL(ps:List Rat){l m:List zt}{x:Line}(h :∀u,u∈x.uses->u<l.length):ev ps (l++m) x=ev ps l x:=by
 cases x with
 | input j=>rfl
 | num a=>rfl
 | neg i=>show dneg (dget (l++m) i)=dneg (dget l i);rw[zak (h i (by simp[Line.uses]))]
 | add i j=>show dadd (dget (l++m) i) (dget (l++m) j)=_;rw[zak (h i (by simp[Line.uses])),zak (h j (by simp[Line.uses]))];rfl
 | sub i j=>show dsub (dget (l++m) i) (dget (l++m) j)=_;rw[zak (h i (by simp[Line.uses])),zak (h j (by simp[Line.uses]))];rfl
 | mul i j=>show dmul (dget (l++m) i) (dget (l++m) j)=_;rw[zak (h i (by simp[Line.uses])),zak (h j (by simp[Line.uses]))];rfl
 | div i j=>show ddiv (dget (l++m) i) (dget (l++m) j)=_;rw[zak (h i (by simp[Line.uses])),zak (h j (by simp[Line.uses]))];rfl
theorem zt2(ps:List Rat){c:Code}(hc:Early c){i:Nat}{x:Line}(hx:c[i]? = some x):dget (evs ps [] c) i=ev ps (evs ps [] c) x:=by
 have hi:i<c.length:=(List.getElem?_eq_some_iff.mp hx).1
 have e:c=c.take i++x::c.drop (i+1):=by
  have h1:=(List.take_append_drop i c).symm
  rw[List.drop_eq_getElem_cons hi]at h1
  have h2:c[i]=x:=(List.getElem?_eq_some_iff.mp hx).2
  rw[h2]at h1
  exact h1
 have e1:evs ps [] c=evs ps (evs ps [] (c.take i)++[ev ps (evs ps [] (c.take i)) x]) (c.drop (i+1)):=by
  have h:=zlP ps (c.take i) (x::c.drop (i+1)) []
  rw[<-e]at h
  exact h
 have hl:(evs ps [] (c.take i)).length=i:=by
  rw[ziP,List.length_take]
  simp only[List.length_nil]
  omega
 obtain⟨m,em⟩:=ziQ ps (c.drop (i+1)) (evs ps [] (c.take i)++[ev ps (evs ps [] (c.take i)) x])
 rw[e1,em,lAa]
 have h1:dget (evs ps [] (c.take i)++([ev ps (evs ps [] (c.take i)) x]++m)) i=ev ps (evs ps [] (c.take i)) x:=by
  have h:=zdK (l:=evs ps [] (c.take i)) (x:=ev ps (evs ps [] (c.take i)) x) (m:=m)
  rw[hl]at h
  exact h
 rw[h1,zAL ps]
 intro u hu
 rw[hl]
 exact hc i x hx u hu
def zhz(c:Code)(E:List zt):List (List (Nat×Rat)):=(c.zip E).map fun x=>zc4 E x.2.1 x.1
theorem zAM(c:Code)(E:List zt):tape c ((val E).map fr)=(zhz c E).map frP:=by
 unfold tape zhz
 have e2:c.zip ((val E).map fr)=(c.zip E).map fun x=>(x.1,fr x.2.1):=by
  unfold val
  rw[List.map_map,List.zip_map_right]
  rfl
 rw[e2,List.map_map,List.map_map]
 refine List.map_congr_left fun x _=>?_
 exact zvz E x.2.1 x.1
def inpOf(c:Code)(i:Nat):Bool:=match c[i]? with
 | some x=>isIn x
 | none=>false
theorem zq9(l:List zt)(v:Rat)(x:Line) :∀p,p∈zc4 l v x->p.1∈x.uses:=by
 intro p hp
 cases x with
 | input j=>cases hp
 | num a=>cases hp
 | neg i=>simp[zc4,Line.uses]at hp⊢;rw[hp]
 | add i j=>simp[zc4,Line.uses]at hp⊢;rcases hp with h|h<;>simp[h]
 | sub i j=>simp[zc4,Line.uses]at hp⊢;rcases hp with h|h<;>simp[h]
 | mul i j=>simp[zc4,Line.uses]at hp⊢;rcases hp with h|h<;>simp[h]
 | div i j=>simp[zc4,Line.uses]at hp⊢;rcases hp with h|h<;>simp[h]
theorem zps{c:Code}{E:List zt}(hl:E.length=c.length){i:Nat}{q:List (Nat×Rat)}(h:(zhz c E)[i]? = some q) :∃x,c[i]? = some x/\q=zc4 E (dget E i).1 x:=by
 unfold zhz at h
 rw[gEm]at h
 cases e:(c.zip E)[i]? with
 | none=>rw[e]at h;cases h
 | some z=>
  rw[e]at h
  have h2:=List.getElem?_zip_eq_some.mp e
  refine⟨z.1,h2.1,?_⟩
  have e3:dget E i=z.2:=by unfold dget;rw[gDm,h2.2];rfl
  rw[e3]
  exact(oSi h).symm
theorem zAN(ps:List Rat){c:Code}(hc:Early c)(k:Nat):TapeOk (zhz c (evs ps [] c)) (inpOf c) fun i=>(dget (evs ps [] c) i).2 k:=by
 have hl:(evs ps [] c).length=c.length:=by rw[ziP];simp
 refine⟨fun i q h p hp=>?_,fun i q h hin=>?_,fun i q h hin=>?_⟩
 ·obtain⟨x,hx,rfl⟩:=zps hl h
  exact hc i x hx _ (zq9 _ _ _ p hp)
 ·obtain⟨x,hx,rfl⟩:=zps hl h
  unfold inpOf at hin
  rw[hx]at hin
  cases x<;>first|rfl|cases hin
 ·obtain⟨x,hx,rfl⟩:=zps hl h
  unfold inpOf at hin
  rw[hx]at hin
  show(dget (evs ps [] c) i).2 k=_
  rw[zt2 ps hc hx]
  exact zvy ps _ x hin k
theorem zt3{c:Code}{E:List zt}(hl:E.length=c.length):(zhz c E).length=c.length:=by
 unfold zhz
 rw[lmm,List.length_zip,hl,Nat.min_self]
theorem zvD(ps:List Rat){c:Code}(hc:Early c)(k:Nat)(l:List Rat)(n:Nat)(hn:n=c.length):inSum k c l n=stage (inpOf c) (fun i=>(dget (evs ps [] c) i).2 k) l 0 n:=by
 unfold inSum stage
 refine zkp fun j hj=>?_
 obtain⟨x,hx⟩ :∃x,c[j]? = some x:=⟨_,gge (by omega)⟩
 show(if c[j]? = some (.input k)then get l j else 0)=if j<0\/inpOf c j=true then get l j*(dget (evs ps [] c) j).2 k else 0
 rw[zt2 ps hc hx]
 have e:inpOf c j=isIn x:=by unfold inpOf;rw[hx]
 rw[e,hx]
 cases x with
 | input i=>
  show _=if j<0\/true=true then get l j*(if i=k then 1 else 0)else 0
  rw[if_pos (Or.inr rfl)]
  by_cases h:i=k
  ·subst h;rw[if_pos rfl,if_pos rfl,Rat.mul_one]
  ·rw[if_neg (by simpa using h),if_neg h,Rat.mul_zero]
 | num a=>simp[isIn]
 | add a b=>simp[isIn]
 | sub a b=>simp[isIn]
 | mul a b=>simp[isIn]
 | div a b=>simp[isIn]
 | neg a=>simp[isIn]
theorem zsi(ps:List Rat){c:Code}(hc:Early c){n:Nat}(hin :∀j,Line.input j∈c->j<n)(ws:List (Nat×Rat))(hw :∀w,w∈ws->w.1<c.length) :
  pulled n c ((val (evs ps [] c)).map fr) (frP ws)=((List.range n).map fun k=>dotP ws fun i=>(dget (evs ps [] c) i).2 k).map fr:=by
 have hl:(evs ps [] c).length=c.length:=by rw[ziP];simp
 have ht:=zt3 (c:=c) hl
 unfold pulled sums
 rw[zAM,zzC,zzB,zCd]
 congr 1
 have hs:=fun k=>zvB (zAN ps hc k) (zfH c.length ws) (by rw[zms,ht])
 have hlen:(zex (zhz c (evs ps [] c)) (zfH c.length ws)).length=c.length:=by rw[(hs 0).2,zms]
 apply List.ext_getElem?
 intro k
 by_cases hk:k<n
 ·have h1:(byR n c (zex (zhz c (evs ps [] c)) (zfH c.length ws)))[k]? = some (get (byR n c (zex (zhz c (evs ps [] c)) (zfH c.length ws))) k):=by
   unfold get
   rw[gDm,gge (by rw[zqh];exact hk)]
   rfl
  have hsk:=(hs k).1
  rw[ht]at hsk
  rw[h1,zAK n k c _ hlen hin,zvD ps hc k _ _ rfl,hsk,zvC ws hw,gEm,List.getElem?_range hk]
  rfl
 ·rw[List.getElem?_eq_none (by rw[zqh];omega),List.getElem?_eq_none (by rw[lmm,List.length_range];omega)]
theorem zvE(ps:List Rat){c:Code}(hc:Early c){n:Nat}(hin :∀j,Line.input j∈c->j<n){i:Nat}(hi:i<c.length) :
  gradient n c ((val (evs ps [] c)).map fr) i=((List.range n).map fun k=>(dget (evs ps [] c) i).2 k).map fr:=by
 unfold gradient
 have h:=zsi ps hc hin [(i,1)] (fun w hw=>by simp at hw;rw[hw];exact hi)
 have e:frP [(i,1)]=[(i,one)]:=rfl
 rw[e]at h
 rw[h]
 congr 1
 refine List.map_congr_left fun k _=>?_
 show 1*(dget (evs ps [] c) i).2 k+0=_
 rw[Rat.one_mul,Rat.add_zero]
end Sp
namespace Sp
open Vagraa (Frac frac zero one isZero weight bits)
open VagraLine (Line Code at_ runFrom Fault)
open Vagraf
open Vagrao (Rule Plan Made)
def heavy(q:Rat):Nat:=if Vagrao.HEAVY<wt q then 2 else 0
def bad(ps:List Rat)(l:List zt)(x:Line):Nat:=match x with
 | .div _ j=>if(dget l j).1=0 then 1 else heavy (ev ps l x).1
 | _=>heavy (ev ps l x).1
def zcF(ps:List Rat):List zt->Code->Except Fault (List zt)
 | l,[]=>.ok l
 | l,x::r=>if bad ps l x=0 then zcF ps (l++[ev ps l x]) r else .error ⟨l.length,bad ps l x⟩
def zod(x:Line):Prop:=match x with
 | .num a=>fr (mkRat a.num a.den)=a
 | _=>True
theorem zzD(ps:List Rat)(l:List zt)(x:Line)(hx:zod x) :
  x.value (ps.map fr) ((val l).map fr)=if bad ps l x=1 then none else some (fr (ev ps l x).1):=by
 have hv :∀q,heavy q≠1:=fun q=>by unfold heavy;split<;>decide
 cases x with
 | input j=>
  show some (at_ (ps.map fr) j)=if heavy _=1 then none else _
  rw[if_neg (hv _),zbh];rfl
 | num a=>
  have e:fr (mkRat a.num a.den)=a:=hx
  show some a=if heavy _=1 then none else some (fr (mkRat a.num a.den))
  rw[if_neg (hv _),e]
 | add i j=>
  show some (Vagraa.add (at_ ((val l).map fr) i) (at_ ((val l).map fr) j))=if heavy _=1 then none else _
  rw[if_neg (hv _),zdQ,zdQ,zk2];rfl
 | sub i j=>
  show some (Vagraa.sub (at_ ((val l).map fr) i) (at_ ((val l).map fr) j))=if heavy _=1 then none else _
  rw[if_neg (hv _),zdQ,zdQ,zqd];rfl
 | mul i j=>
  show some (Vagraa.mul (at_ ((val l).map fr) i) (at_ ((val l).map fr) j))=if heavy _=1 then none else _
  rw[if_neg (hv _),zdQ,zdQ,zm6];rfl
 | div i j=>
  show(if isZero (at_ ((val l).map fr) j)=true then none else some (Vagraa.div (at_ ((val l).map fr) i) (at_ ((val l).map fr) j)))=if(if(dget l j).1=0 then 1 else heavy _)=1 then none else _
  rw[zdQ,zdQ,zj3,zm7]
  by_cases h:(dget l j).1=0
  ·simp[h]
  ·rw[if_neg h,if_neg (hv _),decide_eq_false h]
   simp[ev,ddiv]
 | neg i=>
  show some (Vagraa.neg (at_ ((val l).map fr) i))=if heavy _=1 then none else _
  rw[if_neg (hv _),zdQ,zt0];rfl
theorem zAO{ps:List Rat}{l:List zt}{x:Line}(h:bad ps l x≠1):(bad ps l x=0/\¬Vagrao.HEAVY<wt (ev ps l x).1)\/(bad ps l x=2/\Vagrao.HEAVY<wt (ev ps l x).1):=by
 have e:bad ps l x=heavy (ev ps l x).1:=by
  cases x<;>try rfl
  rename_i i j
  show(if(dget l j).1=0 then 1 else _)=_
  by_cases h0:(dget l j).1=0
  ·exact absurd (show bad ps l (.div i j)=1 from if_pos h0) h
  ·rw[if_neg h0]
 rw[e]
 unfold heavy
 by_cases g:Vagrao.HEAVY<wt (ev ps l x).1
 ·exact .inr ⟨if_pos g,g⟩
 ·exact .inl ⟨if_neg g,g⟩
theorem zt4(ps:List Rat) :∀(c:Code) (l:List zt),(∀x,x∈c->zod x)->
  runFrom (some Vagrao.HEAVY) (ps.map fr) ((val l).map fr) c=match zcF ps l c with
   | .ok m=>.ok ((val m).map fr)
   | .error e=>.error e
 | [],l,_=>rfl
 | x::c,l,h=>by
  unfold runFrom zcF
  rw[zzD ps l x (h x lMs)]
  have hlen:((val l).map fr).length=l.length:=by unfold val;rw[lmm,lmm]
  by_cases h1:bad ps l x=1
  ·rw[if_pos h1]
   simp only[h1,hlen]
   rfl
  ·rw[if_neg h1]
   rcases zAO h1 with⟨e,g⟩|⟨e,g⟩
   ·rw[if_pos e]
    show(if decide (Vagrao.HEAVY<weight (fr (ev ps l x).1))=true then Except.error _ else runFrom _ _ ((val l).map fr++[fr (ev ps l x).1]) c)=_
    rw[if_neg (by rw[decide_eq_true_eq];exact g)]
    have e2:(val l).map fr++[fr (ev ps l x).1]=(val (l++[ev ps l x])).map fr:=by unfold val;rw[lMa,lMa];rfl
    rw[e2]
    exact zt4 ps c _ fun y hy=>h y (lMc _ hy)
   ·rw[if_neg (by rw[e];decide)]
    show(if decide (Vagrao.HEAVY<weight (fr (ev ps l x).1))=true then Except.error _ else runFrom _ _ ((val l).map fr++[fr (ev ps l x).1]) c)=_
    rw[if_pos (by rw[decide_eq_true_eq];exact g),e,hlen]
theorem zeE(ps:List Rat) :∀(c d:Code) (l:List zt),zcF ps l (c++d)=match zcF ps l c with
  | .ok m=>zcF ps m d
  | .error e=>.error e
 | [],d,l=>rfl
 | x::c,d,l=>by
  show(if bad ps l x=0 then zcF ps (l++[ev ps l x]) (c++d)else _)=match(if bad ps l x=0 then zcF ps (l++[ev ps l x]) c else .error _)with
   | .ok m=>zcF ps m d
   | .error e=>.error e
  by_cases h:bad ps l x=0
  ·rw[if_pos h,if_pos h];exact zeE ps c d _
  ·rw[if_neg h,if_neg h]
theorem zwN(ps:List Rat) :∀(c:Code) (l m:List zt),zcF ps l c=.ok m->m=evs ps l c
 | [],l,m,h=>by cases h;rfl
 | x::c,l,m,h=>by
  unfold zcF at h
  split at h
  ·exact zwN ps c _ m h
  ·cases h
def noDiv:Line->Bool
 | .div _ _=>false
 | _=>true
theorem zyx{ps:List Rat}{l:List zt}{x:Line}(h:noDiv x=true):bad ps l x=heavy (ev ps l x).1:=by
 cases x<;>first|rfl|cases h
theorem zqi(ps:List Rat) :∀(c:Code) (l m:List zt),(∀x,x∈c->noDiv x=true)->evs ps l c=l++m->
  if(m.any fun q=>decide (Vagrao.HEAVY<wt q.1))=true then∃i,l.length<=i/\i<l.length+c.length/\zcF ps l c=.error ⟨i,2⟩else zcF ps l c=.ok (l++m)
 | [],l,m,_,e=>by
  have e2:m=[]:=by
   have e1:l=l++m:=e
   have:=congrArg List.length e1
   rw[lEa]at this
   exact List.length_eq_zero_iff.mp (by omega)
  subst e2
  rw[List.append_nil]
  simp[zcF]
 | x::c,l,m,h,e=>by
  have hb:=zyx (ps:=ps) (l:=l) (h x lMs)
  obtain⟨m',e'⟩:=ziQ ps c (l++[ev ps l x])
  have e1:evs ps l (x::c)=l++(ev ps l x::m'):=by
   show evs ps (l++[ev ps l x]) c=_
   rw[e',lAa];rfl
  rw[e1]at e
  have e2:=List.append_cancel_left e
  subst e2
  rw[List.any_cons]
  unfold zcF
  rw[hb]
  by_cases g:Vagrao.HEAVY<wt (ev ps l x).1
  ·rw[decide_eq_true g,Bool.true_or,if_pos rfl]
   refine⟨l.length,nLr _,by rw[List.length_cons];omega,?_⟩
   rw[show heavy (ev ps l x).1=2 from if_pos g]
   rfl
  ·rw[decide_eq_false g,Bool.false_or,show heavy (ev ps l x).1=0 from if_neg g,if_pos rfl]
   have ih:=zqi ps c (l++[ev ps l x]) m' (fun y hy=>h y (lMc _ hy)) e'
   split
   ·next g2=>
    rw[if_pos g2]at ih
    obtain⟨i,h1,h2,h3⟩:=ih
    rw[lEa,List.length_cons,List.length_nil]at h1 h2
    exact⟨i,by omega,by rw[List.length_cons];omega,h3⟩
   ·next g2=>
    rw[if_neg g2]at ih
    rw[ih,lAa];rfl
def zF(ls:List Nat)(a:Nat):Nat:=ls.getD a 0
def zV(u n:Nat)(ls:List Nat):Rule->Code
 | .grow a p=>[.add u p,.mul (zF ls a) n]
 | .pay a p=>[.sub (zF ls a) p]
 | .move a b p=>[.sub (zF ls a) p,.add (zF (ls.set a n) b) p]
 | .share a b p=>[.mul (zF ls a) p,.sub (zF ls a) n,.add (zF (ls.set a (n+1)) b) n]
 | .pull a b p=>[.mul (zF ls b) p,.add (zF ls a) n]
 | .over a p=>[.div (zF ls a) p]
def zg7(n:Nat)(ls:List Nat):Rule->List Nat
 | .grow a _=>ls.set a (n+1)
 | .pay a _=>ls.set a n
 | .move a b _=>(ls.set a n).set b (n+1)
 | .share a b _=>(ls.set a (n+1)).set b (n+2)
 | .pull a _ _=>ls.set a (n+1)
 | .over a _=>ls.set a n
theorem zm9(m:Made)(u:Nat)(o:Nat×Nat)(r:Rule) :
  (m.rule u o r).code=m.code++zV u m.code.length m.lines r/\(m.rule u o r).lines=zg7 m.code.length m.lines r/\
  (m.rule u o r).origin=m.origin++List.replicate (zV u m.code.length m.lines r).length o:=by
 cases r<;>simp[Made.rule,Made.put,Made.now,Made.last,Made.line,zV,zg7,zF,List.replicate]
end Sp
namespace Sp
open Vagraa (Frac frac zero one isZero weight bits)
open VagraLine (Line Code at_ runFrom Fault)
open Vagraf
open Vagrao (Rule Plan Made)
def dun:zt:=(1,fun _=>0)
def zdn(ps:List Rat)(s:List zt):Rule->List zt
 | .grow a p=>[dadd dun (par ps p),dmul (dget s a) (dadd dun (par ps p))]
 | .pay a p=>[dsub (dget s a) (par ps p)]
 | .move a b p=>[dsub (dget s a) (par ps p),dadd (dget (s.set a (dsub (dget s a) (par ps p))) b) (par ps p)]
 | .share a b p=>[dmul (dget s a) (par ps p),dsub (dget s a) (dmul (dget s a) (par ps p)),
   dadd (dget (s.set a (dsub (dget s a) (dmul (dget s a) (par ps p)))) b) (dmul (dget s a) (par ps p))]
 | .pull a b p=>[dmul (dget s b) (par ps p),dadd (dget s a) (dmul (dget s b) (par ps p))]
 | .over a p=>[ddiv (dget s a) (par ps p)]
def zhA(ps:List Rat)(s:List zt):Rule->List zt
 | .grow a p=>s.set a (dmul (dget s a) (dadd dun (par ps p)))
 | .pay a p=>s.set a (dsub (dget s a) (par ps p))
 | .move a b p=>(s.set a (dsub (dget s a) (par ps p))).set b (dadd (dget (s.set a (dsub (dget s a) (par ps p))) b) (par ps p))
 | .share a b p=>(s.set a (dsub (dget s a) (dmul (dget s a) (par ps p)))).set b
   (dadd (dget (s.set a (dsub (dget s a) (dmul (dget s a) (par ps p)))) b) (dmul (dget s a) (par ps p)))
 | .pull a b p=>s.set a (dadd (dget s a) (dmul (dget s b) (par ps p)))
 | .over a p=>s.set a (ddiv (dget s a) (par ps p))
def zbH(m:List zt):Bool:=m.any fun q=>decide (Vagrao.HEAVY<wt q.1)
def zbx(ps:List Rat)(s:List zt)(r:Rule):Nat:=match r with
 | .over _ p=>if get ps p=0 then 1 else if zbH (zdn ps s r)=true then 2 else 0
 | _=>if zbH (zdn ps s r)=true then 2 else 0
def zcY(A P:Nat):Rule->Prop
 | .grow a p=>a<A/\p<P
 | .pay a p=>a<A/\p<P
 | .move a b p=>a<A/\b<A/\p<P
 | .share a b p=>a<A/\b<A/\p<P
 | .pull a b p=>a<A/\b<A/\p<P
 | .over a p=>a<A/\p<P
theorem zi9(ps:List Rat)(s:List zt)(r:Rule):(zhA ps s r).length=s.length:=by
 cases r<;>simp[zhA]
structure Sim(P:Nat)(ps:List Rat)(l:List zt)(ls:List Nat)(s:List zt):Prop where
 pars :∀p,p<P->p<l.length/\dget l p=par ps p
 unit:P+1<l.length/\dget l (P+1)=dun
 len:ls.length=s.length
 acc :∀a,a<s.length->zF ls a<l.length/\dget l (zF ls a)=dget s a
theorem Sim.more{P:Nat}{ps:List Rat}{l:List zt}{ls:List Nat}{s:List zt}(h:Sim P ps l ls s)(m:List zt):Sim P ps (l++m) ls s:=by
 have hl :∀i,i<l.length->i<(l++m).length:=fun i hi=>by rw[lEa];omega
 refine⟨fun p hp=>?_,?_,h.len,fun a ha=>?_⟩
 ·obtain⟨h1,h2⟩:=h.pars p hp
  exact⟨hl _ h1,by rw[zak h1];exact h2⟩
 ·obtain⟨h1,h2⟩:=h.unit
  exact⟨hl _ h1,by rw[zak h1];exact h2⟩
 ·obtain⟨h1,h2⟩:=h.acc a ha
  exact⟨hl _ h1,by rw[zak h1];exact h2⟩
theorem zqj{ls:List Nat}{a n b:Nat}(ha:a<ls.length):zF (ls.set a n) b=if b=a then n else zF ls b:=by
 unfold zF
 rw[gDm,gDm,List.getElem?_set]
 by_cases e:a=b
 ·subst e;simp[ha]
 ·have e':¬b=a:=fun q=>e q.symm
  simp[e,e']
theorem zpt{s:List zt}{a b:Nat}{x:zt}(ha:a<s.length):dget (s.set a x) b=if b=a then x else dget s b:=by
 unfold dget
 rw[gDm,gDm,List.getElem?_set]
 by_cases e:a=b
 ·subst e;simp[ha]
 ·have e':¬b=a:=fun q=>e q.symm
  simp[e,e']
theorem Sim.now{P:Nat}{ps:List Rat}{l:List zt}{ls:List Nat}{s:List zt}(h:Sim P ps l ls s){a n:Nat}{x:zt}(ha:a<s.length)(hn:n<l.length)(hx:dget l n=x) :
  Sim P ps l (ls.set a n) (s.set a x):=by
 refine⟨h.pars,h.unit,by rw[List.length_set,List.length_set];exact h.len,fun b hb=>?_⟩
 rw[List.length_set]at hb
 rw[zqj (by rw[h.len];exact ha),zpt ha]
 by_cases e:b=a
 ·rw[if_pos e,if_pos e];exact⟨hn,hx⟩
 ·rw[if_neg e,if_neg e];exact h.acc b hb
theorem zee(l:List zt)(x:zt)(m:List zt):dget (l++x::m) l.length=x:=zdK
theorem zhN(l:List zt)(x y:zt)(m:List zt):dget (l++x::y::m) (l.length+1)=y:=by
 have h:=zdK (l:=l++[x]) (x:=y) (m:=m)
 rw[lEa,lAa]at h
 exact h
theorem zyy(l:List zt)(x y z:zt)(m:List zt):dget (l++x::y::z::m) (l.length+2)=z:=by
 have h:=zdK (l:=l++[x,y]) (x:=z) (m:=m)
 rw[lEa,lAa]at h
 exact h
theorem zdR(ps:List Rat)(l:List zt)(x:Line)(c:Code):evs ps l (x::c)=evs ps (l++[ev ps l x]) c:=rfl
theorem ziX(ps:List Rat)(l:List zt):evs ps l []=l:=rfl
theorem zt5{P:Nat}{ps:List Rat}{l:List zt}{ls:List Nat}{s:List zt}(h:Sim P ps l ls s){r:Rule}(hr:zcY s.length P r) :
  evs ps l (zV (P+1) l.length ls r)=l++zdn ps s r/\Sim P ps (l++zdn ps s r) (zg7 l.length ls r) (zhA ps s r):=by
 have hu:=h.unit
 cases r with
 | grow a p=>
  obtain⟨ha,hp⟩:=hr
  have pa:=h.acc a ha
  have pp:=h.pars p hp
  have e1:ev ps l (.add (P+1) p)=dadd dun (par ps p):=by show dadd _ _=_;rw[hu.2,pp.2]
  have e2:ev ps (l++[dadd dun (par ps p)]) (.mul (zF ls a) l.length)=dmul (dget s a) (dadd dun (par ps p)):=by
   show dmul _ _=_
   rw[zak pa.1,pa.2,zee]
  refine⟨?_,?_⟩
  ·show evs ps l [.add (P+1) p,.mul (zF ls a) l.length]=_
   rw[zdR,e1,zdR,e2,ziX,lAa];rfl
  ·show Sim P ps (l++[dadd dun (par ps p),dmul (dget s a) (dadd dun (par ps p))]) (ls.set a (l.length+1)) (s.set a _)
   exact(h.more _).now ha (by simp) (zhN _ _ _ _)
 | pay a p=>
  obtain⟨ha,hp⟩:=hr
  have pa:=h.acc a ha
  have pp:=h.pars p hp
  have e1:ev ps l (.sub (zF ls a) p)=dsub (dget s a) (par ps p):=by show dsub _ _=_;rw[pa.2,pp.2]
  refine⟨?_,?_⟩
  ·show evs ps l [.sub (zF ls a) p]=_
   rw[zdR,e1,ziX];rfl
  ·show Sim P ps (l++[dsub (dget s a) (par ps p)]) (ls.set a l.length) (s.set a _)
   exact(h.more _).now ha (by simp) (zee _ _ _)
 | move a b p=>
  obtain⟨ha,hb,hp⟩:=hr
  have pa:=h.acc a ha
  have pp:=h.pars p hp
  have e1:ev ps l (.sub (zF ls a) p)=dsub (dget s a) (par ps p):=by show dsub _ _=_;rw[pa.2,pp.2]
  have h1:Sim P ps (l++[dsub (dget s a) (par ps p)]) (ls.set a l.length) (s.set a (dsub (dget s a) (par ps p))):=(h.more _).now ha (by simp) (zee _ _ _)
  have pb:=h1.acc b (by rw[List.length_set];exact hb)
  have pp1:=h1.pars p hp
  have e2:ev ps (l++[dsub (dget s a) (par ps p)]) (.add (zF (ls.set a l.length) b) p)=dadd (dget (s.set a (dsub (dget s a) (par ps p))) b) (par ps p):=by
   show dadd _ _=_
   rw[pb.2,pp1.2]
  refine⟨?_,?_⟩
  ·show evs ps l [.sub (zF ls a) p,.add (zF (ls.set a l.length) b) p]=_
   rw[zdR,e1,zdR,e2,ziX,lAa];rfl
  ·have h2:=h1.more [dadd (dget (s.set a (dsub (dget s a) (par ps p))) b) (par ps p)]
   rw[lAa]at h2
   exact h2.now (by rw[List.length_set];exact hb) (by simp) (zhN _ _ _ _)
 | share a b p=>
  obtain⟨ha,hb,hp⟩:=hr
  have pa:=h.acc a ha
  have pp:=h.pars p hp
  have e1:ev ps l (.mul (zF ls a) p)=dmul (dget s a) (par ps p):=by show dmul _ _=_;rw[pa.2,pp.2]
  generalize hx:dmul (dget s a) (par ps p)=x at e1
  have e2:ev ps (l++[x]) (.sub (zF ls a) l.length)=dsub (dget s a) x:=by
   show dsub _ _=_
   rw[zak pa.1,pa.2,zee]
  generalize hy:dsub (dget s a) x=y at e2
  have h1:Sim P ps (l++[x,y]) (ls.set a (l.length+1)) (s.set a y):=(h.more _).now ha (by simp) (zhN _ _ _ _)
  have pb:=h1.acc b (by rw[List.length_set];exact hb)
  have e3:ev ps (l++[x,y]) (.add (zF (ls.set a (l.length+1)) b) l.length)=dadd (dget (s.set a y) b) x:=by
   show dadd _ _=_
   rw[pb.2,zee]
  have eD:zdn ps s (.share a b p)=[x,y,dadd (dget (s.set a y) b) x]:=by simp only[zdn,hx,hy]
  have eS:zhA ps s (.share a b p)=(s.set a y).set b (dadd (dget (s.set a y) b) x):=by simp only[zhA,hx,hy]
  rw[eD,eS]
  refine⟨?_,?_⟩
  ·show evs ps l [.mul (zF ls a) p,.sub (zF ls a) l.length,.add (zF (ls.set a (l.length+1)) b) l.length]=_
   rw[zdR,e1,zdR,e2,lAa]
   show evs ps (l++[x,y]) _=_
   rw[zdR,e3,ziX,lAa];rfl
  ·have h2:=h1.more [dadd (dget (s.set a y) b) x]
   rw[lAa]at h2
   exact h2.now (by rw[List.length_set];exact hb) (by simp) (zyy _ _ _ _ _)
 | pull a b p=>
  obtain⟨ha,hb,hp⟩:=hr
  have pa:=h.acc a ha
  have pb:=h.acc b hb
  have pp:=h.pars p hp
  have e1:ev ps l (.mul (zF ls b) p)=dmul (dget s b) (par ps p):=by show dmul _ _=_;rw[pb.2,pp.2]
  have e2:ev ps (l++[dmul (dget s b) (par ps p)]) (.add (zF ls a) l.length)=dadd (dget s a) (dmul (dget s b) (par ps p)):=by
   show dadd _ _=_
   rw[zak pa.1,pa.2,zee]
  refine⟨?_,?_⟩
  ·show evs ps l [.mul (zF ls b) p,.add (zF ls a) l.length]=_
   rw[zdR,e1,zdR,e2,ziX,lAa];rfl
  ·show Sim P ps (l++[_,_]) (ls.set a (l.length+1)) (s.set a _)
   exact(h.more _).now ha (by simp) (zhN _ _ _ _)
 | over a p=>
  obtain⟨ha,hp⟩:=hr
  have pa:=h.acc a ha
  have pp:=h.pars p hp
  have e1:ev ps l (.div (zF ls a) p)=ddiv (dget s a) (par ps p):=by show ddiv _ _=_;rw[pa.2,pp.2]
  refine⟨?_,?_⟩
  ·show evs ps l [.div (zF ls a) p]=_
   rw[zdR,e1,ziX];rfl
  ·show Sim P ps (l++[ddiv (dget s a) (par ps p)]) (ls.set a l.length) (s.set a _)
   exact(h.more _).now ha (by simp) (zee _ _ _)
theorem zzE{P:Nat}{ps:List Rat}{l:List zt}{ls:List Nat}{s:List zt}(h:Sim P ps l ls s){r:Rule}(hr:zcY s.length P r) :
  if zbx ps s r=0 then zcF ps l (zV (P+1) l.length ls r)=.ok (l++zdn ps s r)
  else∃i,l.length<=i/\i<l.length+(zV (P+1) l.length ls r).length/\zcF ps l (zV (P+1) l.length ls r)=.error ⟨i,zbx ps s r⟩:=by
 have hev:=(zt5 h hr).1
 have nd :∀r,(∀a p,r≠.over a p)->zcY s.length P r->evs ps l (zV (P+1) l.length ls r)=l++zdn ps s r->(∀x,x∈zV (P+1) l.length ls r->noDiv x=true)->zbx ps s r=(if zbH (zdn ps s r)=true then 2 else 0)->
  if zbx ps s r=0 then zcF ps l (zV (P+1) l.length ls r)=.ok (l++zdn ps s r)
  else∃i,l.length<=i/\i<l.length+(zV (P+1) l.length ls r).length/\zcF ps l (zV (P+1) l.length ls r)=.error ⟨i,zbx ps s r⟩:=by
  intro r _ _ hev hnd hb
  have g:=zqi ps _ l _ hnd hev
  rw[hb]
  by_cases e:zbH (zdn ps s r)=true
  ·rw[if_pos e,if_neg (by decide)]
   have e':=e
   unfold zbH at e'
   rw[if_pos e']at g
   exact g
  ·rw[if_neg e,if_pos rfl]
   have e':=e
   unfold zbH at e'
   rw[if_neg e']at g
   exact g
 cases r with
 | grow a p=>exact nd _ (fun _ _=>by simp) hr hev (by simp[zV,noDiv]) rfl
 | pay a p=>exact nd _ (fun _ _=>by simp) hr hev (by simp[zV,noDiv]) rfl
 | move a b p=>exact nd _ (fun _ _=>by simp) hr hev (by simp[zV,noDiv]) rfl
 | share a b p=>exact nd _ (fun _ _=>by simp) hr hev (by simp[zV,noDiv]) rfl
 | pull a b p=>exact nd _ (fun _ _=>by simp) hr hev (by simp[zV,noDiv]) rfl
 | over a p=>
  obtain⟨ha,hp⟩:=hr
  have pa:=h.acc a ha
  have pp:=h.pars p hp
  have e1:ev ps l (.div (zF ls a) p)=ddiv (dget s a) (par ps p):=by show ddiv _ _=_;rw[pa.2,pp.2]
  have eb:bad ps l (.div (zF ls a) p)=zbx ps s (.over a p):=by
   show(if(dget l p).1=0 then 1 else heavy (ev ps l (.div (zF ls a) p)).1)=if get ps p=0 then 1 else if zbH [ddiv (dget s a) (par ps p)]=true then 2 else 0
   rw[e1,pp.2]
   show(if get ps p=0 then 1 else heavy (ddiv (dget s a) (par ps p)).1)=_
   by_cases g:get ps p=0
   ·rw[if_pos g,if_pos g]
   ·rw[if_neg g,if_neg g]
    simp[zbH,heavy]
  show if zbx ps s (.over a p)=0 then zcF ps l [.div (zF ls a) p]=_ else∃i,l.length<=i/\i<l.length+1/\zcF ps l [.div (zF ls a) p]=_
  unfold zcF
  rw[eb]
  by_cases g:zbx ps s (.over a p)=0
  ·rw[if_pos g,if_pos g,e1]
   rfl
  ·rw[if_neg g,if_neg g]
   exact⟨l.length,nLr _,by omega,rfl⟩
end Sp
namespace Sp
open Vagraa (Frac frac zero one isZero weight bits)
open VagraLine (Line Code at_ runFrom Fault)
open Vagraf
open Vagrao (Rule Plan Made)
abbrev Res:=Except ((Nat×Nat)×Nat) (List zt)
def stepR(ps:List Rat)(o:Nat×Nat)(r:Rule):Res->Res
 | .error e=>.error e
 | .ok s=>if zbx ps s r=0 then .ok (zhA ps s r)else .error (o,zbx ps s r)
def zfk(ps:List Rat)(t:Nat)(rules:List Rule)(x:Res):Res:=rules.zipIdx.foldl (fun x r=>stepR ps (t,r.2+1) r.1 x) x
def beginD(ps:List Rat):Option Nat->zt
 | some j=>par ps j
 | none=>dz
def zfI(ps:List Rat)(p:Plan):List zt:=p.begins.map (beginD ps)
def zaj(ps:List Rat)(p:Plan)(t:Nat):Res:=(List.range t).foldl (fun x i=>zfk ps (i+1) p.rules x) (.ok (zfI ps p))
structure Stat(P A:Nat)(m:Made):Prop where
 lines:m.lines.length=A
 acc :∀a,a<A->zF m.lines a<m.code.length
 base:P+2<=m.code.length
 org:m.origin.length=m.code.length
 early:Early m.code
 inp :∀j,Line.input j∈m.code->j<P
 const :∀x,x∈m.code->zod x
def Dyn(P:Nat)(ps:List Rat)(m:Made):Res->Prop
 | .ok s=>∃l,zcF ps [] m.code=.ok l/\l.length=m.code.length/\Sim P ps l m.lines s/\s.length=m.lines.length
 | .error (o,k)=>∃e:Fault,zcF ps [] m.code=.error e/\e.line<m.code.length/\m.origin.getD e.line (0,0)=o/\e.kind=k
theorem zbM{ls:List Nat}{a n b N:Nat}(h :∀b,b<ls.length->zF ls b<N)(hn:n<N) :∀b,b<(ls.set a n).length->zF (ls.set a n) b<N:=by
 intro b hb
 rw[List.length_set]at hb
 by_cases ha:a<ls.length
 ·rw[zqj ha]
  split
  ·exact hn
  ·exact h b hb
 ·rw[List.set_eq_of_length_le (by omega)];exact h b hb
theorem Stat.rule{P A:Nat}{m:Made}(h:Stat P A m){r:Rule}(hr:zcY A P r)(o:Nat×Nat):Stat P A (m.rule (P+1) o r):=by
 obtain⟨ec,el,eo⟩:=zm9 m (P+1) o r
 have hb:=h.base
 have hlen:(m.rule (P+1) o r).code.length=m.code.length+(zV (P+1) m.code.length m.lines r).length:=by rw[ec,lEa]
 have hacc :∀b,b<m.lines.length->zF m.lines b<m.code.length:=fun b hb=>h.acc b (by rw[<-h.lines];exact hb)
 have hacc' :∀N,m.code.length<=N->∀b,b<m.lines.length->zF m.lines b<N:=fun N hN b hb=>Nat.lt_of_lt_of_le (hacc b hb) hN
 have hl:=h.lines
 have huse :∀i x,(zV (P+1) m.code.length m.lines r)[i]? = some x->∀u,u∈x.uses->u<m.code.length+i:=by
  intro i x hx u hu
  cases r with
  | grow a p=>
   obtain⟨ha,hp⟩:=hr
   have h1:=h.acc a ha
   match i,hx with
   | 0,hx=>simp[zV]at hx;subst hx;simp[Line.uses]at hu;omega
   | 1,hx=>simp[zV]at hx;subst hx;simp[Line.uses]at hu;omega
  | pay a p=>
   obtain⟨ha,hp⟩:=hr
   have h1:=h.acc a ha
   match i,hx with
   | 0,hx=>simp[zV]at hx;subst hx;simp[Line.uses]at hu;omega
  | move a b p=>
   obtain⟨ha,hb',hp⟩:=hr
   have h1:=h.acc a ha
   have h2:=h.acc b hb'
   have h3:=zbM (a:=a) (n:=m.code.length) (b:=b) (N:=m.code.length+1) (hacc' _ (by omega)) (by omega) b (by rw[List.length_set];omega)
   match i,hx with
   | 0,hx=>simp[zV]at hx;subst hx;simp[Line.uses]at hu;omega
   | 1,hx=>simp[zV]at hx;subst hx;simp[Line.uses]at hu;omega
  | share a b p=>
   obtain⟨ha,hb',hp⟩:=hr
   have h1:=h.acc a ha
   have h2:=h.acc b hb'
   have h3:=zbM (a:=a) (n:=m.code.length+1) (b:=b) (N:=m.code.length+2) (hacc' _ (by omega)) (by omega) b (by rw[List.length_set];omega)
   match i,hx with
   | 0,hx=>simp[zV]at hx;subst hx;simp[Line.uses]at hu;omega
   | 1,hx=>simp[zV]at hx;subst hx;simp[Line.uses]at hu;omega
   | 2,hx=>simp[zV]at hx;subst hx;simp[Line.uses]at hu;omega
  | pull a b p=>
   obtain⟨ha,hb',hp⟩:=hr
   have h1:=h.acc a ha
   have h2:=h.acc b hb'
   match i,hx with
   | 0,hx=>simp[zV]at hx;subst hx;simp[Line.uses]at hu;omega
   | 1,hx=>simp[zV]at hx;subst hx;simp[Line.uses]at hu;omega
  | over a p=>
   obtain⟨ha,hp⟩:=hr
   have h1:=h.acc a ha
   match i,hx with
   | 0,hx=>simp[zV]at hx;subst hx;simp[Line.uses]at hu;omega
 refine⟨?_,?_,by omega,?_,?_,?_,?_⟩
 ·rw[el,<-h.lines];cases r<;>simp[zg7]
 ·intro a ha
  rw[el,hlen]
  have hN:a<(zg7 m.code.length m.lines r).length:=by cases r<;>simp[zg7]<;>omega
  cases r with
  | grow a p=>exact zbM (b:=a) (hacc' _ (by omega)) (by simp[zV]) _ hN
  | pay a p=>exact zbM (b:=a) (hacc' _ (by omega)) (by simp[zV]) _ hN
  | move a b p=>exact zbM (b:=a) (zbM (b:=a) (hacc' _ (by omega)) (by simp[zV])) (by simp[zV]) _ hN
  | share a b p=>exact zbM (b:=a) (zbM (b:=a) (hacc' _ (by omega)) (by simp[zV])) (by simp[zV]) _ hN
  | pull a b p=>exact zbM (b:=a) (hacc' _ (by omega)) (by simp[zV]) _ hN
  | over a p=>exact zbM (b:=a) (hacc' _ (by omega)) (by simp[zV]) _ hN
 ·rw[eo,ec,lEa,lEa,List.length_replicate,h.org]
 ·intro i x hx u hu
  rw[ec]at hx
  by_cases hi:i<m.code.length
  ·rw[List.getElem?_append_left hi]at hx
   exact h.early i x hx u hu
  ·rw[List.getElem?_append_right (by omega)]at hx
   have:=huse _ x hx u hu
   omega
 ·intro j hj
  rw[ec,List.mem_append]at hj
  rcases hj with hj|hj
  ·exact h.inp j hj
  ·cases r<;>simp[zV]at hj
 ·intro x hx
  rw[ec,List.mem_append]at hx
  rcases hx with hx|hx
  ·exact h.const x hx
  ·revert x hx
   cases r<;>simp[zV,zod]
theorem Dyn.rule{P A:Nat}{ps:List Rat}{m:Made}(h:Stat P A m){r:Rule}(hr:zcY A P r)(o:Nat×Nat){x:Res}(d:Dyn P ps m x) :
  Dyn P ps (m.rule (P+1) o r) (stepR ps o r x):=by
 obtain⟨ec,el,eo⟩:=zm9 m (P+1) o r
 cases x with
 | error e=>
  obtain⟨o',k⟩:=e
  obtain⟨e,h1,h2,h3,h4⟩:=d
  refine⟨e,?_,?_,?_,h4⟩
  ·rw[ec,zeE,h1]
  ·rw[ec,lEa];omega
  ·rw[eo,gDm,List.getElem?_append_left (by rw[h.org];exact h2),<-gDm];exact h3
 | ok s=>
  obtain⟨l,h1,h2,h3,h4⟩:=d
  have hr':zcY s.length P r:=by rw[h4,h.lines];exact hr
  have g:=zzE h3 hr'
  have sm:=(zt5 h3 hr').2
  show Dyn P ps (m.rule (P+1) o r) (if zbx ps s r=0 then .ok (zhA ps s r)else .error (o,zbx ps s r))
  rw[h2]at g sm
  by_cases e:zbx ps s r=0
  ·rw[if_pos e]at g⊢
   refine⟨l++zdn ps s r,?_,?_,by rw[el];exact sm,?_⟩
   ·rw[ec,zeE,h1];exact g
   ·rw[ec,lEa,lEa,h2]
    congr 1
    cases r<;>rfl
   ·rw[zi9,h4,el];cases r<;>simp[zg7]
  ·rw[if_neg e]at g⊢
   obtain⟨i,g1,g2,g3⟩:=g
   refine⟨⟨i,zbx ps s r⟩,?_,?_,?_,rfl⟩
   ·rw[ec,zeE,h1];exact g3
   ·rw[ec,lEa];exact g2
   ·show(m.rule (P+1) o r).origin.getD i (0,0)=o
    rw[eo,gDm,List.getElem?_append_right (by rw[h.org];exact g1),List.getElem?_replicate,if_pos (by rw[h.org];omega)]
    rfl
theorem zsj{P A:Nat}{ps:List Rat}(t:Nat) :∀(rs:List (Rule×Nat)) (m:Made) (x:Res),(∀r,r∈rs->zcY A P r.1)->Stat P A m->Dyn P ps m x->
  Stat P A (rs.foldl (fun(x:Made) r=>x.rule (P+1) (t,r.2+1) r.1) m)/\Dyn P ps (rs.foldl (fun(x:Made) r=>x.rule (P+1) (t,r.2+1) r.1) m) (rs.foldl (fun x r=>stepR ps (t,r.2+1) r.1 x) x)
 | [],m,x,_,h,d=>⟨h,d⟩
 | r::rs,m,x,hr,h,d=>zsj t rs _ _ (fun q hq=>hr q (lMc _ hq)) (h.rule (hr r lMs) _) (d.rule h (hr r lMs) _)
structure zdg(p:Plan):Prop where
 begins:p.begins.length=p.accounts
 at_ :∀j,some j∈p.begins->j<p.params
 rules :∀r,r∈p.rules->zcY p.accounts p.params r
structure zfl(p:Plan)(ps:List Rat):Prop where
 len:ps.length=p.params
 light :∀j,j<p.params->wt (get ps j)<=Vagrao.HEAVY
theorem zqk{p:Plan}(hp:zdg p):Stat p.params p.accounts p.first:=by
 have hc:p.first.code.length=p.params+2:=by simp[Plan.first]
 refine⟨?_,?_,?_,?_,?_,?_,?_⟩
 ·simp[Plan.first,hp.begins]
 ·intro a ha
  rw[hc]
  show(p.begins.map fun b=>b.getD p.params).getD a 0<_
  rw[gDm,gEm]
  cases e:p.begins[a]? with
  | none=>simp
  | some b=>
   cases b with
   | none=>simp
   | some j=>
    have:=hp.at_ j (mge e)
    simp;omega
 ·rw[hc];exact nLr _
 ·rw[hc];simp[Plan.first]
 ·intro i x hx u hu
  have hm:=mge hx
  simp[Plan.first]at hm
  rcases hm with⟨j,_,rfl⟩|rfl|rfl<;>simp[Line.uses]at hu
 ·intro j hj
  simp[Plan.first]at hj
  exact hj
 ·intro x hx
  simp[Plan.first]at hx
  rcases hx with⟨j,_,rfl⟩|rfl|rfl
  ·trivial
  ·show fr (mkRat zero.num zero.den)=zero
   decide +kernel
  ·show fr (mkRat one.num one.den)=one
   decide +kernel
theorem zoP(ps:List Rat)(P:Nat)(m:List zt){j:Nat}(hj:j<P):dget ((List.range P).map (par ps)++m) j=par ps j:=by
 rw[zak (by rw[lmm,List.length_range];exact hj)]
 unfold dget
 rw[gDm,gEm,List.getElem?_range hj]
 rfl
theorem zoQ(ps:List Rat)(P:Nat)(h :∀j,j<P->wt (get ps j)<=Vagrao.HEAVY) :∀n,n<=P->zcF ps [] ((List.range n).map Line.input)=.ok ((List.range n).map (par ps))
 | 0,_=>rfl
 | n+1,hn=>by
  rw[List.range_succ,lMa,zeE,zoQ ps P h n (by omega),lMa]
  show(if heavy (get ps n)=0 then _ else _)=_
  have e:heavy (get ps n)=0:=if_neg (by have:=h n (by omega);omega)
  rw[if_pos e]
  rfl
theorem zyz{p:Plan}(hp:zdg p){ps:List Rat}(hl:zfl p ps):Dyn p.params ps p.first (.ok (zfI ps p)):=by
 refine⟨(List.range p.params).map (par ps)++[dz,dun],?_,?_,?_,?_⟩
 ·show zcF ps [] ((List.range p.params).map Line.input++[.num zero,.num one])=_
  rw[zeE,zoQ ps p.params hl.light p.params (nLr _)]
  show(if heavy (mkRat zero.num zero.den)=0 then(if heavy (mkRat one.num one.den)=0 then _ else _)else _)=_
  have e1:heavy (mkRat zero.num zero.den)=0:=by decide +kernel
  have e2:heavy (mkRat one.num one.den)=0:=by decide +kernel
  rw[if_pos e1,if_pos e2]
  show Except.ok (_++[_]++[_])=_
  rw[lAa]
  have e3:mkRat zero.num zero.den=0:=by decide +kernel
  have e4:mkRat one.num one.den=1:=by decide +kernel
  show Except.ok (_++[(mkRat zero.num zero.den,_),(mkRat one.num one.den,_)])=_
  rw[e3,e4]
  rfl
 ·simp[Plan.first]
 ·refine⟨fun j hj=>⟨?_,zoP ps _ _ hj⟩,⟨?_,?_⟩,?_,fun a ha=>?_⟩
  ·simp;omega
  ·simp
  ·have h:=zhN ((List.range p.params).map (par ps)) dz dun []
   rw[lmm,List.length_range]at h
   exact h
  ·simp[Plan.first,zfI]
  ·unfold zfI at ha⊢
   rw[lmm]at ha
   have e:p.begins[a]? = some p.begins[a]:=gge ha
   generalize p.begins[a]=b at e
   have e1:zF p.first.lines a=b.getD p.params:=by
    show(p.begins.map fun b=>b.getD p.params).getD a 0=_
    rw[gDm,gEm,e];rfl
   have e2:dget (p.begins.map (beginD ps)) a=beginD ps b:=by
    unfold dget
    rw[gDm,gEm,e];rfl
   rw[e1,e2]
   cases b with
   | none=>
    have h:=zee ((List.range p.params).map (par ps)) dz [dun]
    rw[lmm,List.length_range]at h
    exact⟨by simp,h⟩
   | some j=>
    have hj:=hp.at_ j (mge e)
    exact⟨by simp;omega,zoP ps _ _ hj⟩
 ·simp[Plan.first,zfI]
theorem zeX(p:Plan)(t:Nat):p.made (t+1)=(p.made t).period (p.params+1) (t+1) p.rules:=by
 unfold Plan.made
 rw[List.range_succ,List.foldl_append]
 rfl
theorem ziR(ps:List Rat)(p:Plan)(t:Nat):zaj ps p (t+1)=zfk ps (t+1) p.rules (zaj ps p t):=by
 unfold zaj
 rw[List.range_succ,List.foldl_append]
 rfl
theorem zra{p:Plan}(hp:zdg p){ps:List Rat}(hl:zfl p ps) :∀t,Stat p.params p.accounts (p.made t)/\Dyn p.params ps (p.made t) (zaj ps p t)
 | 0=>⟨zqk hp,zyz hp hl⟩
 | t+1=>by
  obtain⟨h,d⟩:=zra hp hl t
  rw[zeX,ziR]
  refine zsj (t+1) p.rules.zipIdx _ _ (fun r hr=>?_) h d
  have:=List.mem_zipIdx' hr
  exact hp.rules _ (this.2▸List.getElem_mem _)
theorem zoR{P A:Nat}(t:Nat) :∀(rs:List (Rule×Nat)) (m:Made),(∀r,r∈rs->zcY A P r.1)->Stat P A m->
  Stat P A (rs.foldl (fun(x:Made) r=>x.rule (P+1) (t,r.2+1) r.1) m)
 | [],m,_,h=>h
 | r::rs,m,hr,h=>zoR t rs _ (fun q hq=>hr q (lMc _ hq)) (h.rule (hr r lMs) _)
theorem zhO{p:Plan}(hp:zdg p) :∀t,Stat p.params p.accounts (p.made t)
 | 0=>zqk hp
 | t+1=>by
  rw[zeX]
  refine zoR (t+1) p.rules.zipIdx _ (fun r hr=>?_) (zhO hp t)
  have:=List.mem_zipIdx' hr
  exact hp.rules _ (this.2▸List.getElem_mem _)
theorem zql(u t:Nat) :∀(rs:List (Rule×Nat)) (m:Made),∃d,(rs.foldl (fun(x:Made) r=>x.rule u (t,r.2+1) r.1) m).code=m.code++d
 | [],m=>⟨[],by rw[List.append_nil];rfl⟩
 | r::rs,m=>by
  obtain⟨d,e⟩:=zql u t rs (m.rule u (t,r.2+1) r.1)
  obtain⟨ec,_⟩:=zm9 m u (t,r.2+1) r.1
  exact⟨_,by rw[List.foldl_cons,e,ec,lAa]⟩
theorem zsk(p:Plan)(i:Nat) :∀k,∃d,(p.made (i+k)).code=(p.made i).code++d
 | 0=>⟨[],by rw[List.append_nil];rfl⟩
 | k+1=>by
  obtain⟨d,e⟩:=zsk p i k
  obtain⟨d',e'⟩:=zql (p.params+1) (i+k+1) p.rules.zipIdx (p.made (i+k))
  exact⟨d++d',by show(p.made (i+k+1)).code=_;rw[zeX,<-lAa,<-e];exact e'⟩
end Sp
namespace Sp
open Vagraa (Frac frac zero one isZero weight bits)
open VagraLine (Line Code at_ runFrom Fault)
open Vagraf
open Vagrao (Rule Plan Made)
theorem zey{p:Plan}(hp:zdg p){ps:List Rat}(hl:zfl p ps){t:Nat}{s:List zt}(h:zaj ps p t=.ok s) :
  p.run t (ps.map fr)=.ok ((val (evs ps [] (p.made t).code)).map fr)/\s.length=p.accounts/\Sim p.params ps (evs ps [] (p.made t).code) (p.made t).lines s:=by
 obtain⟨st,d⟩:=zra hp hl t
 rw[h]at d
 obtain⟨l,h1,h2,h3,h4⟩:=d
 have e:=zwN ps _ _ _ h1
 subst e
 refine⟨?_,by rw[h4,st.lines],h3⟩
 have g:=zt4 ps (p.made t).code [] st.const
 rw[h1]at g
 exact g
theorem zj4{p:Plan}(hp:zdg p){ps:List Rat}(hl:zfl p ps){t:Nat}{o:Nat×Nat}{k:Nat}(h:zaj ps p t=.error (o,k)) :
  ∃e,p.run t (ps.map fr)=.error e/\(p.made t).origin.getD e.line (0,0)=o/\e.kind=k:=by
 obtain⟨st,d⟩:=zra hp hl t
 rw[h]at d
 obtain⟨e,h1,h2,h3,h4⟩:=d
 refine⟨e,?_,h3,h4⟩
 have g:=zt4 ps (p.made t).code [] st.const
 rw[h1]at g
 exact g
theorem zyA(m:Made)(a:Nat):m.line a=zF m.lines a:=rfl
theorem zja{P:Nat}{ps:List Rat}{l:List zt}{ls:List Nat}{s:List zt}(h:Sim P ps l ls s){a:Nat}(ha:a<s.length):at_ ((val l).map fr) (zF ls a)=fr (dget s a).1:=by
 rw[zdQ,(h.acc a ha).2]
theorem zsl{P:Nat}{ps:List Rat}{l:List zt}{ls:List Nat}{s:List zt}(h:Sim P ps l ls s){β:Type}(f:Nat->β)(g:zt->β)(hf :∀a,a<s.length->f (zF ls a)=g (dget s a)):ls.map f=s.map g:=by
 apply List.ext_getElem?
 intro a
 rw[gEm,gEm]
 by_cases ha:a<s.length
 ·have h1:ls[a]? = some (zF ls a):=by unfold zF;rw[gDm,gge (by rw[h.len];exact ha)];rfl
  have h2:s[a]? = some (dget s a):=by unfold dget;rw[gDm,gge ha];rfl
  rw[h1,h2]
  exact congrArg some (hf a ha)
 ·rw[List.getElem?_eq_none (by rw[h.len];omega),List.getElem?_eq_none (by omega)]
  rfl
def zaR(P:Nat)(x:zt):List Rat:=(List.range P).map x.2
theorem zhP{p:Plan}(hp:zdg p){ps:List Rat}(hl:zfl p ps){t:Nat}{s:List zt}(h:zaj ps p t=.ok s){a:Nat}(ha:a<p.accounts) :
  gradient p.params (p.made t).code ((val (evs ps [] (p.made t).code)).map fr) (zF (p.made t).lines a)=(zaR p.params (dget s a)).map fr:=by
 obtain⟨_,e2,sm⟩:=zey hp hl h
 have st:=zhO hp t
 rw[zvE ps st.early st.inp (st.acc a ha),(sm.acc a (by omega)).2]
 rfl
def zeF(P:Nat)(s:List zt)(w:List Rat):List Rat:=(List.range P).map fun k=>((s.zip w).map fun x=>x.2*x.1.2 k).foldr (· + ·) 0
theorem zAP{p:Plan}(hp:zdg p){ps:List Rat}(hl:zfl p ps){t:Nat}{s:List zt}(h:zaj ps p t=.ok s){w:List Rat}(hw:w.length=p.accounts) :
  pulled p.params (p.made t).code ((val (evs ps [] (p.made t).code)).map fr) ((p.made t).lines.zip (w.map fr))=(zeF p.params s w).map fr:=by
 obtain⟨_,e2,sm⟩:=zey hp hl h
 have st:=zhO hp t
 have e:(p.made t).lines.zip (w.map fr)=frP ((p.made t).lines.zip w):=by
  unfold frP
  rw[List.zip_map_right]
  rfl
 rw[e,zsi ps st.early st.inp _ (fun x hx=>?_)]
 ·unfold zeF
  congr 1
  refine List.map_congr_left fun k _=>?_
  have g :∀(ls:List Nat) (s:List zt) (w:List Rat),ls.length=s.length->(∀a,a<s.length->(dget (evs ps [] (p.made t).code) (zF ls a)).2 k=(dget s a).2 k)->
    dotP (ls.zip w) (fun i=>(dget (evs ps [] (p.made t).code) i).2 k)=((s.zip w).map fun x=>x.2*x.1.2 k).foldr (· + ·) 0:=by
   intro ls
   induction ls with
   | nil=>intro s w hs _;cases s with
    | nil=>rfl
    | cons _ _=>cases hs
   | cons i ls ih=>
    intro s w hs hk
    cases s with
    | nil=>cases hs
    | cons x s=>
     cases w with
     | nil=>rfl
     | cons y w=>
      show y*(dget (evs ps [] (p.made t).code) i).2 k+dotP (ls.zip w) _=y*x.2 k+_
      have h0:=hk 0 (by simp)
      have h0':(dget (evs ps [] (p.made t).code) i).2 k=x.2 k:=h0
      rw[h0',ih s w (by simpa using hs) (fun a ha=>hk (a+1) (by simpa using ha))]
      rfl
  exact g _ s w sm.len fun a ha=>by rw[(sm.acc a ha).2]
 ·obtain⟨a,ha⟩:=List.getElem?_of_mem hx
  have h2:=List.getElem?_zip_eq_some.mp ha
  have ha2:a<(p.made t).lines.length:=(List.getElem?_eq_some_iff.mp h2.1).1
  have:=st.acc a (by rw[<-st.lines];exact ha2)
  unfold zF at this
  rw[gDm,h2.1]at this
  exact this
theorem zpu{ps:List Rat}{p:Plan}{t:Nat}{e:(Nat×Nat)×Nat}(h:zaj ps p t=.error e):zaj ps p (t+1)=.error e:=by
 rw[ziR,h]
 unfold zfk
 generalize p.rules.zipIdx=rs
 induction rs with
 | nil=>rfl
 | cons r rs ih=>exact ih
theorem zg8{ps:List Rat}{p:Plan}{i:Nat}{e:(Nat×Nat)×Nat}(h:zaj ps p i=.error e) :∀k,zaj ps p (i+k)=.error e
 | 0=>h
 | k+1=>zpu (zg8 h k)
theorem zvF{ps:List Rat}{p:Plan}{t:Nat}{s:List zt}(h:zaj ps p t=.ok s){i:Nat}(hi:i<=t) :∃s',zaj ps p i=.ok s':=by
 cases e:zaj ps p i with
 | ok s'=>exact⟨s',rfl⟩
 | error e'=>
  have:=zg8 e (t-i)
  rw[show i+(t-i)=t by omega,h]at this
  cases this
theorem zAQ{p:Plan}(hp:zdg p){ps:List Rat}(hl:zfl p ps){t:Nat}{i:Nat}(hi:i<=t){s':List zt}(h':zaj ps p i=.ok s'){a:Nat}(ha:a<p.accounts) :
  at_ ((val (evs ps [] (p.made t).code)).map fr) ((p.made i).line a)=fr (dget s' a).1:=by
 obtain⟨_,e2,sm⟩:=zey hp hl h'
 obtain⟨d,e⟩:=zsk p i (t-i)
 rw[show i+(t-i)=t by omega]at e
 have e3:evs ps [] (p.made t).code=evs ps (evs ps [] (p.made i).code) d:=by rw[e,zlP]
 obtain⟨m,em⟩:=ziQ ps d (evs ps [] (p.made i).code)
 rw[e3,em]
 exact zja (sm.more m) (by omega)
theorem zgd{m n:Nat}(h:m<=n):bits m<=bits n:=by
 unfold bits
 by_cases hm:m=0
 ·rw[if_pos hm];exact Nat.zero_le _
 ·have hn:n≠0:=by omega
  rw[if_neg hm,if_neg hn]
  have h1:m<2 ^ (n.log2+1):=Nat.lt_of_le_of_lt h Nat.lt_log2_self
  have:=(Nat.log2_lt hm).mpr h1
  omega
theorem zoe{n k:Nat}(h:n<2 ^ k):bits n<=k:=by
 unfold bits
 by_cases hn:n=0
 ·rw[if_pos hn];exact Nat.zero_le _
 ·rw[if_neg hn]
  exact(Nat.log2_lt hn).mpr h
theorem zt6(n:Int)(d:Nat)(hd:d≠0):wt (mkRat n d)<=bits n.natAbs+bits d:=by
 unfold wt weight fr
 rw[Rat.num_mkRat,Rat.den_mkRat,if_neg hd,if_neg hd]
 have h1:(n/((d.gcd n.natAbs:Nat):Int)).natAbs<=n.natAbs:=by
  rw[Int.natAbs_ediv_of_dvd (Int.natAbs_dvd_natAbs.mp (by rw[Int.natAbs_natCast];exact Nat.gcd_dvd_right _ _)),Int.natAbs_natCast]
  exact Nat.div_le_self _ _
 exact Nat.add_le_add (zgd h1) (zgd (Nat.div_le_self _ _))
end Sp
namespace Sp
open Vagraa (Frac frac zero one isZero weight bits)
open VagraLine (Line Code at_ runFrom Fault fracsOf fracsTold)
open Vagraf (gradient pulled)
open Vagrao (Rule Plan Made Call State R andThen ranged periods tell balances)
def pairs:List Int->List Rat
 | n::d::r=>mkRat n d.toNat::pairs r
 | _=>[]
def zdS:List Int->Bool
 | _::d::r=>decide (1<=d)&&zdS r
 | _=>true
def zaF(n:Nat)(l:List Int):Option (List Rat):=if l.length=2*n/\zdS l=true then some (pairs l)else none
theorem zqm :∀(l:List Int),fracsOf l=if l.length%2=0/\zdS l=true then some ((pairs l).map fr)else none
 | []=>rfl
 | [n]=>by
  show none=_
  rw[if_neg (by simp)]
 | n::d::r=>by
  unfold fracsOf
  rw[zqm r]
  show(if d<1 then none else Option.map (fun l=>frac n d.toNat::l) (if r.length%2=0/\zdS r=true then some ((pairs r).map fr)else none))=if(r.length+1+1)%2=0/\(decide (1<=d)&&zdS r)=true then some (fr (mkRat n d.toNat)::(pairs r).map fr)else none
  by_cases h:d<1
  ·rw[if_pos h,if_neg (by simp;omega)]
  ·rw[if_neg h,decide_eq_true (by omega:1<=d),Bool.true_and,show(r.length+1+1)%2=r.length%2 by omega]
   split
   ·rw[zq8];rfl
   ·rfl
theorem zdT :∀(l:List Int),(pairs l).length=l.length/2
 | []=>rfl
 | [n]=>by show 0=1/2;decide
 | n::d::r=>by
  show(pairs r).length+1=(r.length+1+1)/2
  rw[zdT r];omega
theorem zt7(n:Nat)(l:List Int):Vagrao.fracs n l=match zaF n l with
  | some rs=>.ok (rs.map fr)
  | none=>.error (-2):=by
 unfold Vagrao.fracs zaF
 rw[zqm]
 by_cases h:l.length%2=0/\zdS l=true
 ·rw[if_pos h]
  show(if((pairs l).map fr).length=n then _ else _)=_
  rw[lmm,zdT]
  by_cases g:l.length/2=n
  ·rw[if_pos g,if_pos ⟨by omega,h.2⟩]
  ·rw[if_neg g,if_neg (fun q=>g (by omega))]
 ·rw[if_neg h,if_neg (fun q=>h ⟨by omega,q.2⟩)]
def Nums(l:List Int):Prop:=∀x,x∈l->-(10 ^ 18)<=x/\x<=10 ^ 18
structure Small(P:Nat)(ps:List Rat):Prop where
 len:ps.length=P
 small :∀q,q∈ps->q.num.natAbs<=10 ^ 18/\q.den<=10 ^ 18
theorem zvG(n:Int)(d:Nat)(hd:d≠0):(mkRat n d).num.natAbs<=n.natAbs/\(mkRat n d).den<=d:=by
 rw[Rat.num_mkRat,Rat.den_mkRat,if_neg hd,if_neg hd]
 refine⟨?_,Nat.div_le_self _ _⟩
 rw[Int.natAbs_ediv_of_dvd (Int.natAbs_dvd_natAbs.mp (by rw[Int.natAbs_natCast];exact Nat.gcd_dvd_right _ _)),Int.natAbs_natCast]
 exact Nat.div_le_self _ _
theorem zoS :∀(l:List Int),zdS l=true->Nums l->∀q,q∈pairs l->q.num.natAbs<=10 ^ 18/\q.den<=10 ^ 18
 | [],_,_,q,hq=>by cases hq
 | [n],_,_,q,hq=>by cases hq
 | n::d::r,h,hn,q,hq=>by
  have h':(decide (1<=d)&&zdS r)=true:=h
  rw[bAt,decide_eq_true_eq]at h'
  have hq':q=mkRat n d.toNat\/q∈pairs r:=by
   have:q∈mkRat n d.toNat::pairs r:=hq
   simpa using this
  rcases hq' with e|hq
  ·subst e
   have h1:=hn n (by simp)
   have h2:=hn d (by simp)
   have h3:=zvG n d.toNat (by omega)
   exact⟨by omega,by omega⟩
  ·exact zoS r h'.2 (fun x hx=>hn x (by simp[hx])) q hq
theorem zkq{n:Nat}{l:List Int}{rs:List Rat}(h:zaF n l=some rs)(hn:Nums l):Small n rs:=by
 unfold zaF at h
 split at h
 ·next g=>
  cases h
  exact⟨by rw[zdT];omega,zoS l g.2 hn⟩
 ·cases h
theorem zof{ps:List Rat}{j:Nat}(h:j<ps.length):get ps j∈ps:=by
 unfold get
 rw[gDm,gge h]
 exact List.getElem_mem h
theorem zoT{q:Rat}(h:q.num.natAbs<=10 ^ 18/\q.den<=10 ^ 18):wt q<=120:=by
 have h1:bits q.num.natAbs<=60:=zoe (Nat.lt_of_le_of_lt h.1 (by decide))
 have h2:bits q.den<=60:=zoe (Nat.lt_of_le_of_lt h.2 (by decide))
 show bits q.num.natAbs+bits q.den<=120
 omega
theorem Small.light{p:Plan}{ps:List Rat}(h:Small p.params ps):zfl p ps:=
 ⟨h.len,fun j hj=>nLt (zoT (h.small _ (zof (by rw[h.len];exact hj)))) (by decide)⟩
def LONG:Nat:=1500
def za4(head:List Int)(l:List Rat):List Int:=if(l.any fun q=>decide (LONG<wt q))=true then [-6]else head++l.flatMap fun q=>[q.num,(q.den:Int)]
def inT(t:Int)(f:Nat->List Int):List Int:=if 0<=t/\t<=20 then f t.toNat else [-1]
def inN(a:Int)(n:Nat)(f:Nat->List Int):List Int:=if 0<=a/\a<n then f a.toNat else [-1]
def zcA(v:Option (List Rat))(f:List Rat->List Int):List Int:=match v with
 | none=>[-4]
 | some ps=>f ps
def zhB(n:Nat)(l:List Int)(f:List Rat->List Int):List Int:=match zaF n l with
 | none=>[-2]
 | some rs=>f rs
def zbs(ps:List Rat)(p:Plan)(t:Nat)(f:List zt->List Int):List Int:=match zaj ps p t with
 | .ok s=>f s
 | .error _=>[-5]
def amt(ps:List Rat)(p:Plan)(a i:Nat):Rat:=match zaj ps p i with
 | .ok s=>(dget s a).1
 | .error _=>0
def sumR(l:List Rat):Rat:=l.foldl (· + ·) 0
def dotR(l m:List Rat):Rat:=sumR (List.zipWith (· * ·) l m)
def zjb(ps:List Rat)(p:Plan)(t:Nat):List Int:=match zaj ps p t with
 | .ok _=>[0]
 | .error e=>[1,(e.1.1:Int),(e.1.2:Int),(e.2:Int)]
def aimR(ps:List Rat)(p:Plan)(t a j:Nat)(g:Rat)(s:List zt):List Int:=
 let d:=(dget s a).2 j
 if d=0 then [0]
 else
  let x:=get ps j+(g-(dget s a).1)/d
  if LONG<wt x then [-6]
  else match zaj (ps.set j x) p t with
   | .error _=>za4 [1] [x]
   | .ok s'=>za4 [2] [x,(dget s' a).1]
def zcB(ps:List Rat)(p:Plan)(t a:Nat)(g:Rat):List Int:=match(List.range (t+1)).findIdx? fun i=>decide (amt ps p a i<g)with
 | some i=>za4 [1,(i:Int)] [amt ps p a i]
 | none=>[0]
def whatR(ps qs:List Rat)(P a:Nat)(s s':List zt):List Int:=
 let told:=(dget s a).1+dotR (zaR P (dget s a)) (List.zipWith (· - ·) qs ps)
 za4 [3] [(dget s' a).1,told,(dget s' a).1-told]
def zf1(ps:List Rat)(a j:Nat)(s:List zt):List Int:=
 if(dget s a).1=0 then [0]else za4 [1] [get ps j*(dget s a).2 j/(dget s a).1]
def codeR(p:Plan)(t:Nat):List Int:=((p.made t).code.length:Int)::VagraLine.told (p.made t).code++(p.made t).lines.map Int.ofNat
structure M where
 plan:Plan
 vals:Option (List Rat)
def ask(m:M):Call->List Int
 | .fault t=>inT t fun t=>zcA m.vals fun ps=>zjb ps m.plan t
 | .run t=>inT t fun t=>zcA m.vals fun ps=>zbs ps m.plan t fun s=>za4 [(m.plan.accounts:Int)] (s.map (·.1))
 | .path a t=>inN a m.plan.accounts fun a=>inT t fun t=>zcA m.vals fun ps=>zbs ps m.plan t fun _=>za4 [((t+1:Nat):Int)] ((List.range (t+1)).map fun i=>amt ps m.plan a i)
 | .slopes a t=>inN a m.plan.accounts fun a=>inT t fun t=>zcA m.vals fun ps=>zbs ps m.plan t fun s=>za4 [(m.plan.params:Int)] (zaR m.plan.params (dget s a))
 | .table t=>inT t fun t=>zcA m.vals fun ps=>zbs ps m.plan t fun s=>za4 [(m.plan.accounts:Int),(m.plan.params:Int)] (s.flatMap (zaR m.plan.params))
 | .pull t w=>inT t fun t=>zhB m.plan.accounts w fun w=>zcA m.vals fun ps=>zbs ps m.plan t fun s=>za4 [(m.plan.params:Int)] (zeF m.plan.params s w)
 | .elastic a j t=>inN a m.plan.accounts fun a=>inN j m.plan.params fun j=>inT t fun t=>zcA m.vals fun ps=>zbs ps m.plan t fun s=>zf1 ps a j s
 | .whatIf a t l=>inN a m.plan.accounts fun a=>inT t fun t=>zhB m.plan.params l fun qs=>zcA m.vals fun ps=>zbs ps m.plan t fun s=>zbs qs m.plan t fun s'=>whatR ps qs m.plan.params a s s'
 | .aim a j t l=>inN a m.plan.accounts fun a=>inN j m.plan.params fun j=>inT t fun t=>zhB 1 l fun g=>zcA m.vals fun ps=>zbs ps m.plan t fun s=>aimR ps m.plan t a j (get g 0) s
 | .first a t l=>inN a m.plan.accounts fun a=>inT t fun t=>zhB 1 l fun g=>zcA m.vals fun ps=>zbs ps m.plan t fun _=>zcB ps m.plan t a (get g 0)
 | .total t=>inT t fun t=>zcA m.vals fun ps=>zbs ps m.plan t fun s=>za4 [1] [sumR (s.map (·.1))]
 | .code t=>inT t fun t=>codeR m.plan t
 | _=>[-1]
def za5(m:M)(c:Call):M×List Int:=match c with
 | .plan n k b r=>if(1<=n/\n<=6)/\(0<=k/\k<=8)then
   match Vagrao.beginsOf n.toNat k.toNat b,Vagrao.rulesOf n.toNat k.toNat r.length r with
   | some b,some r=>if 10<r.length then(m,[-7])else(⟨⟨n.toNat,k.toNat,b,r⟩,none⟩,[(r.length:Int)])
   | _,_=>(m,[-2])
  else(m,[-1])
 | .set l=>match zaF m.plan.params l with
  | some rs=>({m with vals:=some rs},[(m.plan.params:Int)])
  | none=>(m,[-2])
 | c=>(m,ask m c)
structure Rep(s:State)(m:M):Prop where
 plan:s.plan=m.plan
 vals:s.values=m.vals.map fun ps=>ps.map fr
 ok:zdg m.plan
 small :∀ps,m.vals=some ps->Small m.plan.params ps
def enc(r:R (List Int)):List Int:=match r with
 | .ok l=>l
 | .error n=>[n]
theorem zdh(head:List Int)(l:List Rat):enc (tell head (l.map fr))=za4 head l:=by
 unfold tell za4
 have e:((l.map fr).any fun a=>decide (Vagrao.LONG<weight a))=(l.any fun q=>decide (LONG<wt q)):=by
  rw[List.any_map];rfl
 rw[e]
 split
 ·rfl
 ·show head++fracsTold (l.map fr)=_
  unfold fracsTold
  rw[List.flatMap_map]
  rfl
theorem zdD(t:Int)(f:Nat->R (List Int))(g:Nat->List Int)(h :∀n,n<=20->enc (f n)=g n):enc (andThen (periods t) f)=inT t g:=by
 unfold periods ranged inT
 by_cases c:0<=t/\t<=20
 ·rw[if_pos c,if_pos (show 0<=t/\t<=(Vagrao.MOSTPERIODS:Int)from c)]
  exact h _ (by omega)
 ·rw[if_neg c,if_neg (show ¬(0<=t/\t<=(Vagrao.MOSTPERIODS:Int))from c)]
  rfl
theorem zej(a:Int)(n:Nat)(f:Nat->R (List Int))(g:Nat->List Int)(h :∀i,i<n->enc (f i)=g i):enc (andThen (ranged a 0 ((n:Int)-1)) f)=inN a n g:=by
 unfold ranged inN
 by_cases c:0<=a/\a<n
 ·rw[if_pos c,if_pos ⟨c.1,by omega⟩]
  exact h _ (by omega)
 ·rw[if_neg c,if_neg (fun q=>c ⟨q.1,by omega⟩)]
  rfl
theorem zj5(n:Nat)(l:List Int)(f:List Frac->R (List Int))(g:List Rat->List Int)(h :∀rs,zaF n l=some rs->enc (f (rs.map fr))=g rs):enc (andThen (Vagrao.fracs n l) f)=zhB n l g:=by
 rw[zt7]
 unfold zhB
 cases e:zaF n l with
 | none=>rfl
 | some rs=>exact h rs e
theorem zjc{s:State}{m:M}(r:Rep s m)(t:Nat)(f:List Frac×List Frac->R (List Int))(g:List Rat->List zt->List Int)
  (h :∀ps u,m.vals=some ps->zaj ps m.plan t=.ok u->enc (f (ps.map fr,(val (evs ps [] (m.plan.made t).code)).map fr))=g ps u) :
  enc (andThen (s.vals t) f)=zcA m.vals fun ps=>zbs ps m.plan t fun u=>g ps u:=by
 unfold State.vals zcA
 rw[r.vals,r.plan]
 cases e:m.vals with
 | none=>rfl
 | some ps=>
  have hl:=(r.small ps e).light (p:=m.plan)
  show enc (andThen (match m.plan.run t (ps.map fr)with
   | .ok vs=>.ok (ps.map fr,vs)
   | .error _=>.error (-5)) f)=zbs ps m.plan t fun u=>g ps u
  unfold zbs
  cases e2:zaj ps m.plan t with
  | ok u=>
   rw[(zey r.ok hl e2).1]
   exact h ps u e e2
  | error x=>
   obtain⟨o,k⟩:=x
   obtain⟨y,h1,_⟩:=zj4 r.ok hl e2
   rw[h1]
   rfl
theorem zna{s:State}{m:M}(r:Rep s m)(t:Int)(f:Nat->Made->List Frac->List Frac->R (List Int))(g:Nat->List Rat->List zt->List Int)
  (h :∀n ps u,n<=20->m.vals=some ps->zaj ps m.plan n=.ok u->enc (f n (m.plan.made n) (ps.map fr) ((val (evs ps [] (m.plan.made n).code)).map fr))=g n ps u) :
  enc (s.at t f)=inT t fun n=>zcA m.vals fun ps=>zbs ps m.plan n fun u=>g n ps u:=by
 unfold State.at
 refine zdD t _ _ fun n hn=>?_
 refine zjc r n _ _ fun ps u e1 e2=>?_
 rw[r.plan]
 exact h n ps u hn e1 e2
theorem zyB{s:State}{m:M}(r:Rep s m)(a t:Int)(f:Nat->Nat->Made->List Frac->List Frac->R (List Int))(g:Nat->Nat->List Rat->List zt->List Int)
  (h :∀i n ps u,i<m.plan.accounts->n<=20->m.vals=some ps->zaj ps m.plan n=.ok u->enc (f i n (m.plan.made n) (ps.map fr) ((val (evs ps [] (m.plan.made n).code)).map fr))=g i n ps u) :
  enc (s.of a t f)=inN a m.plan.accounts fun i=>inT t fun n=>zcA m.vals fun ps=>zbs ps m.plan n fun u=>g i n ps u:=by
 unfold State.of State.account
 rw[r.plan]
 refine zej a _ _ _ fun i hi=>?_
 exact zna r t _ _ fun n ps u hn e1 e2=>h i n ps u hi hn e1 e2
theorem zoU{p:Plan}(hp:zdg p){ps:List Rat}(hl:zfl p ps){t:Nat}{u:List zt}(h:zaj ps p t=.ok u) :
  balances (p.made t) ((val (evs ps [] (p.made t).code)).map fr)=(u.map (·.1)).map fr:=by
 unfold balances
 rw[List.map_map]
 obtain⟨_,_,sm⟩:=zey hp hl h
 exact zsl sm _ _ fun a ha=>zja sm ha
theorem zBM{ps:List Rat}{p:Plan}{a i:Nat}{u:List zt}(h:zaj ps p i=.ok u):amt ps p a i=(dget u a).1:=by
 unfold amt;rw[h]
theorem zpv{p:Plan}(hp:zdg p){ps:List Rat}(hl:zfl p ps){t:Nat}{u:List zt}(h:zaj ps p t=.ok u){a:Nat}(ha:a<p.accounts){i:Nat}(hi:i<=t) :
  at_ ((val (evs ps [] (p.made t).code)).map fr) ((p.made i).line a)=fr (amt ps p a i):=by
 obtain⟨u',e⟩:=zvF h hi
 rw[zAQ hp hl hi e ha,zBM e]
theorem zt8 :∀(l:List Rat) (x:Rat),(l.map fr).foldl Vagraa.add (fr x)=fr (l.foldl (· + ·) x)
 | [],x=>rfl
 | y::l,x=>by
  show(l.map fr).foldl Vagraa.add (Vagraa.add (fr x) (fr y))=_
  rw[zk2,zt8 l]
  rfl
theorem zk3 :∀(l m:List Rat),List.zipWith Vagraa.mul (l.map fr) (m.map fr)=(List.zipWith (· * ·) l m).map fr
 | [],m=>by cases m<;>rfl
 | x::l,[]=>rfl
 | x::l,y::m=>by
  show Vagraa.mul (fr x) (fr y)::List.zipWith Vagraa.mul (l.map fr) (m.map fr)=fr (x*y)::_
  rw[zm6,zk3 l m]
theorem zk4 :∀(l m:List Rat),List.zipWith Vagraa.sub (l.map fr) (m.map fr)=(List.zipWith (· - ·) l m).map fr
 | [],m=>by cases m<;>rfl
 | x::l,[]=>rfl
 | x::l,y::m=>by
  show Vagraa.sub (fr x) (fr y)::List.zipWith Vagraa.sub (l.map fr) (m.map fr)=fr (x-y)::_
  rw[zqd,zk4 l m]
theorem zBN(l m:List Rat):Vagraf.dot (l.map fr) (m.map fr)=fr (dotR l m):=by
 unfold Vagraf.dot
 rw[zk3]
 exact zt8 _ 0
end Sp
namespace Sp
open Vagraa (Frac frac zero one isZero weight bits)
open VagraLine (Line Code at_ runFrom Fault fracsOf fracsTold)
open Vagraf (gradient pulled)
open Vagrao (Rule Plan Made Call State R andThen ranged periods tell balances)
theorem zsT{P:Nat}{ps:List Rat}{l:List zt}{ls:List Nat}{s:List zt}(h:Sim P ps l ls s){β:Type}(f:Nat->List β)(g:zt->List β)(hf :∀a,a<s.length->f (zF ls a)=g (dget s a)):ls.flatMap f=s.flatMap g:=by
 rw[List.flatMap_def,List.flatMap_def,zsl h f g hf]
theorem zsm{P:Nat}(x:zt){j:Nat}(hj:j<P):at_ ((zaR P x).map fr) j=fr (x.2 j):=by
 rw[zbh]
 unfold zaR
 rw[gDm,gEm,List.getElem?_range hj]
 rfl
theorem zt9{p:Plan}{ps:List Rat}(h:zfl p ps){j:Nat}{x:Rat}(hx:wt x<=Vagrao.HEAVY):zfl p (ps.set j x):=by
 refine⟨by rw[List.length_set];exact h.len,fun i hi=>?_⟩
 rw[zwL]
 split
 ·exact hx
 ·exact h.light i hi
theorem zBO{s:State}{m:M}(r:Rep s m)(c:Call)(hn :∀a t l,c=.whatIf a t l->Nums l):enc (s.asked c)=ask m c:=by
 have P:=r.plan
 have lt_of :∀{ps},m.vals=some ps->zfl m.plan ps:=fun e=>(r.small _ e).light
 cases c with
 | fault t=>
  dsimp only[State.asked,ask]
  show enc (s.fault t)=inT t _
  unfold State.fault
  refine zdD t _ _ fun n hn=>?_
  rw[r.vals]
  unfold zcA
  cases e:m.vals with
  | none=>rfl
  | some ps=>
   show s.faultTold n (ps.map fr)=zjb ps m.plan n
   unfold State.faultTold zjb
   rw[P]
   cases e2:zaj ps m.plan n with
   | ok u=>rw[(zey r.ok (lt_of e) e2).1]
   | error x=>
    obtain⟨o,k⟩:=x
    obtain⟨y,h1,h2,h3⟩:=zj4 r.ok (lt_of e) e2
    rw[h1]
    show [1,(((m.plan.made n).origin.getD y.line (0,0)).1:Int),(((m.plan.made n).origin.getD y.line (0,0)).2:Int),(y.kind:Int)]=_
    rw[h2,h3]
 | run t=>
  dsimp only[State.asked,ask]
  refine zna r t _ _ fun n ps u hn e1 e2=>?_
  rw[zoU r.ok (lt_of e1) e2,zdh]
  have:=(zhO r.ok n).lines
  rw[this]
 | path a t=>
  dsimp only[State.asked,ask]
  refine zyB r a t _ _ fun i n ps u hi hn e1 e2=>?_
  have e:((s.plan.path n i).map fun j=>at_ ((val (evs ps [] (m.plan.made n).code)).map fr) j)=((List.range (n+1)).map fun j=>amt ps m.plan i j).map fr:=by
   rw[P]
   unfold Plan.path
   rw[List.map_map,List.map_map]
   refine List.map_congr_left fun j hj=>?_
   rw[List.mem_range]at hj
   exact zpv r.ok (lt_of e1) e2 hi (by omega)
  show enc (tell _ ((s.plan.path n i).map fun j=>at_ ((val (evs ps [] (m.plan.made n).code)).map fr) j))=_
  rw[e,zdh]
 | slopes a t=>
  dsimp only[State.asked,ask]
  refine zyB r a t _ _ fun i n ps u hi hn e1 e2=>?_
  show enc (tell [(s.plan.params:Int)] (s.slopesOf n _ _))=_
  unfold State.slopesOf
  rw[P,zyA,zhP r.ok (lt_of e1) e2 hi,zdh]
 | table t=>
  dsimp only[State.asked,ask]
  refine zna r t _ _ fun n ps u hn e1 e2=>?_
  obtain⟨_,el,sm⟩:=zey r.ok (lt_of e1) e2
  have e:((m.plan.made n).lines.flatMap fun i=>s.slopesOf n ((val (evs ps [] (m.plan.made n).code)).map fr) i)=(u.flatMap (zaR m.plan.params)).map fr:=by
   rw[List.map_flatMap]
   refine zsT sm _ _ fun a ha=>?_
   unfold State.slopesOf
   rw[P]
   exact zhP r.ok (lt_of e1) e2 (by omega)
  show enc (tell [((m.plan.made n).lines.length:Int),(s.plan.params:Int)] _)=_
  rw[e,zdh,(zhO r.ok n).lines,P]
 | pull t w=>
  dsimp only[State.asked,ask]
  show enc (andThen (periods t) _)=inT t _
  refine zdD t _ _ fun n hn=>?_
  rw[P]
  refine zj5 _ w _ _ fun rs er=>?_
  refine zjc r n _ _ fun ps u e1 e2=>?_
  have hw:rs.length=m.plan.accounts:=by
   unfold zaF at er
   split at er
   ·next g=>cases er;rw[zdT];omega
   ·cases er
  show enc (tell _ (pulled m.plan.params (m.plan.made n).code ((val (evs ps [] (m.plan.made n).code)).map fr) ((m.plan.made n).lines.zip (rs.map fr))))=_
  rw[zAP r.ok (lt_of e1) e2 hw,zdh]
 | elastic a j t=>
  dsimp only[State.asked,ask]
  show enc (andThen (s.account a) _)=inN a _ _
  unfold State.account
  rw[P]
  refine zej a _ _ _ fun i hi=>?_
  unfold State.param
  rw[P]
  refine zej j _ _ _ fun k hk=>?_
  refine zna r t _ _ fun n ps u hn e1 e2=>?_
  obtain⟨_,el,sm⟩:=zey r.ok (lt_of e1) e2
  show enc (if isZero (at_ ((val (evs ps [] (m.plan.made n).code)).map fr) (zF (m.plan.made n).lines i))=true then .ok [0]else tell [1] [Vagraa.div (Vagraa.mul (at_ (ps.map fr) k) (at_ (s.slopesOf n ((val (evs ps [] (m.plan.made n).code)).map fr) (zF (m.plan.made n).lines i)) k)) (at_ ((val (evs ps [] (m.plan.made n).code)).map fr) (zF (m.plan.made n).lines i))])=zf1 ps i k u
  unfold State.slopesOf zf1
  rw[P,zja sm (by omega),zj3,zhP r.ok (lt_of e1) e2 hi,zsm _ hk,zbh,zm6,zm7]
  by_cases z:(dget u i).1=0
  ·rw[if_pos z,if_pos (by simpa using z)];rfl
  ·rw[if_neg z,if_neg (by simpa using z)]
   exact zdh [1] [_]
 | whatIf a t l=>
  dsimp only[State.asked,ask]
  show enc (s.whatIf a t l)=inN a _ _
  unfold State.whatIf State.account
  rw[P]
  refine zej a _ _ _ fun i hi=>?_
  refine zdD t _ _ fun n hn'=>?_
  refine zj5 _ l _ _ fun qs er=>?_
  refine zjc r n _ _ fun ps u e1 e2=>?_
  have hq:=(zkq er (hn a t l rfl)).light (p:=m.plan)
  obtain⟨_,el,sm⟩:=zey r.ok (lt_of e1) e2
  unfold zbs
  cases e3:zaj qs m.plan n with
  | error x=>
   obtain⟨o,k⟩:=x
   obtain⟨y,h1,_⟩:=zj4 r.ok hq e3
   show enc (match m.plan.run n (qs.map fr)with
    | .error _=>.error (-5)
    | .ok ws=>_)=_
   rw[h1]
   rfl
  | ok u'=>
   obtain⟨h1,el',sm'⟩:=zey r.ok hq e3
   show enc (match m.plan.run n (qs.map fr)with
    | .error _=>.error (-5)
    | .ok ws=>_)=_
   rw[h1]
   show enc (tell [3] [at_ ((val (evs qs [] (m.plan.made n).code)).map fr) (zF (m.plan.made n).lines i),
    Vagraa.add (at_ ((val (evs ps [] (m.plan.made n).code)).map fr) (zF (m.plan.made n).lines i)) (Vagraf.dot (s.slopesOf n ((val (evs ps [] (m.plan.made n).code)).map fr) (zF (m.plan.made n).lines i)) (List.zipWith Vagraa.sub (qs.map fr) (ps.map fr))),
    Vagraa.sub (at_ ((val (evs qs [] (m.plan.made n).code)).map fr) (zF (m.plan.made n).lines i)) (Vagraa.add (at_ ((val (evs ps [] (m.plan.made n).code)).map fr) (zF (m.plan.made n).lines i)) (Vagraf.dot (s.slopesOf n ((val (evs ps [] (m.plan.made n).code)).map fr) (zF (m.plan.made n).lines i)) (List.zipWith Vagraa.sub (qs.map fr) (ps.map fr))))])=whatR ps qs m.plan.params i u u'
   unfold State.slopesOf
   rw[P,zja sm (by omega),zja sm' (by omega),zhP r.ok (lt_of e1) e2 hi,zk4,zBN,zk2,zqd]
   exact zdh [3] [_,_,_]
 | aim a j t l=>
  dsimp only[State.asked,ask]
  show enc (s.aim a j t l)=inN a _ _
  unfold State.aim State.account
  rw[P]
  refine zej a _ _ _ fun i hi=>?_
  unfold State.param
  rw[P]
  refine zej j _ _ _ fun k hk=>?_
  refine zdD t _ _ fun n hn'=>?_
  refine zj5 _ l _ _ fun g er=>?_
  refine zjc r n _ _ fun ps u e1 e2=>?_
  obtain⟨_,el,sm⟩:=zey r.ok (lt_of e1) e2
  show enc (if isZero (at_ (s.slopesOf n ((val (evs ps [] (m.plan.made n).code)).map fr) (zF (m.plan.made n).lines i)) k)=true then .ok [0]else _)=aimR ps m.plan n i k (get g 0) u
  have ed:at_ (s.slopesOf n ((val (evs ps [] (m.plan.made n).code)).map fr) (zF (m.plan.made n).lines i)) k=fr ((dget u i).2 k):=by
   unfold State.slopesOf
   rw[P,zhP r.ok (lt_of e1) e2 hi,zsm _ hk]
  rw[ed,zj3]
  unfold aimR
  by_cases z:(dget u i).2 k=0
  ·rw[if_pos (by simpa using z)]
   simp only[z,if_true]
   rfl
  ·rw[if_neg (by simpa using z)]
   simp only[z,if_false]
   have ex:Vagraa.add (at_ (ps.map fr) k) (Vagraa.div (Vagraa.sub (at_ (g.map fr) 0) (at_ ((val (evs ps [] (m.plan.made n).code)).map fr) (zF (m.plan.made n).lines i))) (at_ (s.slopesOf n ((val (evs ps [] (m.plan.made n).code)).map fr) (zF (m.plan.made n).lines i)) k))=fr (get ps k+(get g 0-(dget u i).1)/(dget u i).2 k):=by
    rw[ed,zja sm (by omega),zbh,zbh,zqd,zm7,zk2]
    rfl
   show enc (match m.plan.run n ((ps.map fr).set k (Vagraa.add (at_ (ps.map fr) k) (Vagraa.div (Vagraa.sub (at_ (g.map fr) 0) (at_ ((val (evs ps [] (m.plan.made n).code)).map fr) (zF (m.plan.made n).lines i))) (at_ (s.slopesOf n ((val (evs ps [] (m.plan.made n).code)).map fr) (zF (m.plan.made n).lines i)) k))))with
    | .error _=>tell [1] [Vagraa.add (at_ (ps.map fr) k) (Vagraa.div (Vagraa.sub (at_ (g.map fr) 0) (at_ ((val (evs ps [] (m.plan.made n).code)).map fr) (zF (m.plan.made n).lines i))) (at_ (s.slopesOf n ((val (evs ps [] (m.plan.made n).code)).map fr) (zF (m.plan.made n).lines i)) k))]
    | .ok ws=>tell [2] [Vagraa.add (at_ (ps.map fr) k) (Vagraa.div (Vagraa.sub (at_ (g.map fr) 0) (at_ ((val (evs ps [] (m.plan.made n).code)).map fr) (zF (m.plan.made n).lines i))) (at_ (s.slopesOf n ((val (evs ps [] (m.plan.made n).code)).map fr) (zF (m.plan.made n).lines i)) k)),at_ ws (zF (m.plan.made n).lines i)])=_
   rw[ex,zq3]
   generalize get ps k+(get g 0-(dget u i).1)/(dget u i).2 k=x
   by_cases w:LONG<wt x
   ·rw[if_pos w]
    have g1 :∀h (l:List Rat),za4 h (x::l)=[-6]:=fun h l=>by
     unfold za4
     rw[List.any_cons,decide_eq_true w,Bool.true_or,if_pos rfl]
    have g2 :∀h (l:List Frac),enc (tell h (fr x::l))=[-6]:=fun h l=>by
     unfold tell
     rw[List.any_cons,show decide (Vagrao.LONG<weight (fr x))=true from decide_eq_true w,Bool.true_or,if_pos rfl]
     rfl
    split
    ·exact g2 _ _
    ·exact g2 _ _
   ·rw[if_neg w]
    have hw:wt x<=Vagrao.HEAVY:=by
     have h1:¬1500<wt x:=w
     show wt x<=4000
     omega
    have hq:=zt9 (j:=k) (lt_of e1) hw
    cases e3:zaj (ps.set k x) m.plan n with
    | error y=>
     obtain⟨o,q⟩:=y
     obtain⟨y,h1,_⟩:=zj4 r.ok hq e3
     rw[h1]
     exact zdh [1] [_]
    | ok u'=>
     obtain⟨h1,el',sm'⟩:=zey r.ok hq e3
     rw[h1]
     show enc (tell [2] [fr x,at_ ((val (evs (ps.set k x) [] (m.plan.made n).code)).map fr) (zF (m.plan.made n).lines i)])=_
     rw[zja sm' (by omega)]
     exact zdh [2] [_,_]
 | first a t l=>
  dsimp only[State.asked,ask]
  show enc (s.firstBelow a t l)=inN a _ _
  unfold State.firstBelow State.account
  rw[P]
  refine zej a _ _ _ fun i hi=>?_
  refine zdD t _ _ fun n hn'=>?_
  refine zj5 _ l _ _ fun g er=>?_
  refine zjc r n _ _ fun ps u e1 e2=>?_
  show enc (match(m.plan.path n i).findIdx? fun j=>Vagraa.lt (at_ ((val (evs ps [] (m.plan.made n).code)).map fr) j) (at_ (g.map fr) 0)with
   | some j=>tell [1,(j:Int)] [at_ ((val (evs ps [] (m.plan.made n).code)).map fr) ((m.plan.path n i).getD j 0)]
   | none=>.ok [0])=zcB ps m.plan n i (get g 0)
  unfold zcB
  have e:((m.plan.path n i).findIdx? fun j=>Vagraa.lt (at_ ((val (evs ps [] (m.plan.made n).code)).map fr) j) (at_ (g.map fr) 0))=(List.range (n+1)).findIdx? fun j=>decide (amt ps m.plan i j<get g 0):=by
   unfold Plan.path
   rw[List.findIdx?_map]
   have gen :∀(l:List Nat),(∀j,j∈l->j<=n)->l.findIdx? ((fun j=>Vagraa.lt (at_ ((val (evs ps [] (m.plan.made n).code)).map fr) j) (at_ (g.map fr) 0))∘fun j=>(m.plan.made j).line i)=l.findIdx? fun j=>decide (amt ps m.plan i j<get g 0):=by
    intro l
    induction l with
    | nil=>intro _;rfl
    | cons j l ih=>
     intro hl
     rw[List.findIdx?_cons,List.findIdx?_cons,ih fun q hq=>hl q (lMc _ hq)]
     have:((fun j=>Vagraa.lt (at_ ((val (evs ps [] (m.plan.made n).code)).map fr) j) (at_ (g.map fr) 0))∘fun j=>(m.plan.made j).line i) j=decide (amt ps m.plan i j<get g 0):=by
      show Vagraa.lt (at_ ((val (evs ps [] (m.plan.made n).code)).map fr) ((m.plan.made j).line i)) (at_ (g.map fr) 0)=_
      rw[zpv r.ok (lt_of e1) e2 hi (hl j lMs),zbh,zCc]
      rfl
     rw[this]
   exact gen _ fun j hj=>by rw[List.mem_range]at hj;omega
  rw[e]
  cases e3:(List.range (n+1)).findIdx? fun j=>decide (amt ps m.plan i j<get g 0)with
  | none=>rfl
  | some j=>
   have hj:j<n+1:=by
    have:=(List.findIdx?_eq_some_iff_findIdx_eq.mp e3).1
    simpa using this
   have e4:(m.plan.path n i).getD j 0=(m.plan.made j).line i:=by
    unfold Plan.path
    rw[gDm,gEm,List.getElem?_range hj]
    rfl
   show enc (tell [1,(j:Int)] [at_ ((val (evs ps [] (m.plan.made n).code)).map fr) ((m.plan.path n i).getD j 0)])=_
   rw[e4,zpv r.ok (lt_of e1) e2 hi (by omega)]
   exact zdh _ [_]
 | total t=>
  dsimp only[State.asked,ask]
  refine zna r t _ _ fun n ps u hn e1 e2=>?_
  show enc (tell [1] [Vagrao.total (balances (m.plan.made n) ((val (evs ps [] (m.plan.made n).code)).map fr))])=_
  rw[zoU r.ok (lt_of e1) e2]
  have:Vagrao.total ((u.map (·.1)).map fr)=fr (sumR (u.map (·.1))):=zt8 _ 0
  rw[this]
  exact zdh _ [_]
 | code t=>
  dsimp only[State.asked,ask]
  show enc (andThen (periods t) _)=inT t _
  refine zdD t _ _ fun n hn=>?_
  rw[P]
  rfl
 | plan a b c d=>rfl
 | set l=>rfl
end Sp
namespace Sp
open Vagraa (Frac frac zero one isZero weight bits)
open VagraLine (Line Code at_ runFrom Fault fracsOf fracsTold)
open Vagrao (Rule Plan Made Call State R andThen ranged periods tell balances)
theorem zvH{n m:Nat}{l:List Int}{b:List (Option Nat)}(h:Vagrao.beginsOf n m l=some b):b.length=n/\∀j,some j∈b->j<m:=by
 unfold Vagrao.beginsOf at h
 split at h
 ·next g=>
  cases h
  refine⟨by rw[lmm];exact g.1,fun j hj=>?_⟩
  rw[List.mem_map]at hj
  obtain⟨x,hx,e⟩:=hj
  have:=List.all_eq_true.mp g.2 x hx
  rw[bAt,decide_eq_true_eq,decide_eq_true_eq]at this
  split at e
  ·cases e
  ·cases e;omega
 ·cases h
theorem zqn{n m:Nat} :∀(f:Nat) (l:List Int) (rs:List Rule),Vagrao.rulesOf n m f l=some rs->∀r,r∈rs->zcY n m r
 | f,[],rs,h,r,hr=>by
  unfold Vagrao.rulesOf at h
  cases h;cases hr
 | 0,_::_,rs,h,r,hr=>by
  unfold Vagrao.rulesOf at h
  cases h
 | f+1,[_],rs,h,r,hr=>by unfold Vagrao.rulesOf at h;cases h
 | f+1,[_,_],rs,h,r,hr=>by unfold Vagrao.rulesOf at h;cases h
 | f+1,[_,_,_],rs,h,r,hr=>by unfold Vagrao.rulesOf at h;cases h
 | f+1,k::a::b::p::l,rs,h,r,hr=>by
  unfold Vagrao.rulesOf at h
  split at h
  ·next g=>
   dsimp only at h
   split at h
   ·next o heq=>
    have ho:zcY n m o:=by
     split at heq
     ·split at heq
      ·cases heq;exact⟨by omega,by omega⟩
      ·cases heq
     ·split at heq
      ·cases heq;exact⟨by omega,by omega⟩
      ·cases heq
     ·cases heq;exact⟨by omega,by omega,by omega⟩
     ·cases heq;exact⟨by omega,by omega,by omega⟩
     ·cases heq;exact⟨by omega,by omega,by omega⟩
     ·split at heq
      ·cases heq;exact⟨by omega,by omega⟩
      ·cases heq
     ·cases heq
    cases e2:Vagrao.rulesOf n m f l with
    | none=>rw[e2]at h;cases h
    | some rs'=>
     rw[e2]at h
     have e3:o::rs'=rs:=oSi h
     subst e3
     rcases List.mem_cons.mp hr with e4|hr
     ·subst e4;exact ho
     ·exact zqn f l rs' e2 r hr
   ·cases h
  ·cases h
theorem znb{n:Nat}{l:List Int}{rs:List Rat}(h:zaF n l=some rs):rs.length=n:=by
 unfold zaF at h
 split at h
 ·next g=>cases h;rw[zdT];omega
 ·cases h
def zwO(c:Call):Prop:=match c with
 | .set l=>Nums l
 | .whatIf _ _ l=>Nums l
 | _=>True
theorem zyC:Rep Vagrao.start ⟨⟨0,0,[],[]⟩,none⟩:=⟨rfl,rfl,⟨rfl,fun j h=>(by cases h),fun r h=>(by cases h)⟩,fun ps h=>by cases h⟩
theorem zxm{s:State}{c:Call}(e:Vagrao.outcome s c=andThen (s.asked c) (fun l=>.ok (s,l))) :
  VagraoNeutral.encode (Vagrao.step s c).2=enc (s.asked c)/\(Vagrao.step s c).1=s:=by
 unfold Vagrao.step
 rw[e]
 cases s.asked c with
 | ok l=>exact⟨rfl,rfl⟩
 | error n=>exact⟨rfl,rfl⟩
theorem zAR{s:State}{m:M}(r:Rep s m)(c:Call)(hn:zwO c):VagraoNeutral.encode (Vagrao.step s c).2=(za5 m c).2/\Rep (Vagrao.step s c).1 (za5 m c).1:=by
 have other :∀c,(∀a t l,c=.whatIf a t l->Nums l)->Vagrao.outcome s c=andThen (s.asked c) (fun l=>.ok (s,l))->za5 m c=(m,ask m c)->VagraoNeutral.encode (Vagrao.step s c).2=(za5 m c).2/\Rep (Vagrao.step s c).1 (za5 m c).1:=by
  intro c hn e1 e2
  have h:=zxm e1
  rw[e2,h.1,h.2]
  exact⟨zBO r c hn,r⟩
 cases c with
 | plan n k b l=>
  unfold Vagrao.step Vagrao.outcome za5
  dsimp only
  unfold ranged
  by_cases h1:1<=n/\n<=6
  ·rw[if_pos (show 1<=n/\n<=(Vagrao.MOSTACCOUNTS:Int)from h1)]
   by_cases h2:0<=k/\k<=8
   ·rw[if_pos (show 0<=k/\k<=(Vagrao.MOSTPARAMS:Int)from h2),if_pos ⟨h1,h2⟩]
    dsimp only[andThen]
    cases e1:Vagrao.beginsOf n.toNat k.toNat b with
    | none=>exact⟨rfl,r⟩
    | some b'=>
     cases e2:Vagrao.rulesOf n.toNat k.toNat l.length l with
     | none=>exact⟨rfl,r⟩
     | some l'=>
      dsimp only
      by_cases h3:10<l'.length
      ·rw[if_pos h3,if_pos (show Vagrao.MOSTRULES<l'.length from h3)]
       exact⟨rfl,r⟩
      ·rw[if_neg h3,if_neg (show ¬Vagrao.MOSTRULES<l'.length from h3)]
       have q1:=zvH e1
       exact⟨rfl,rfl,rfl,⟨q1.1,q1.2,zqn _ _ _ e2⟩,fun ps h=>by cases h⟩
   ·rw[if_neg (show ¬(0<=k/\k<=(Vagrao.MOSTPARAMS:Int))from h2),if_neg (c:=(1<=n/\n<=6)/\(0<=k/\k<=8)) (fun q=>h2 q.2)]
    exact⟨rfl,r⟩
  ·rw[if_neg (show ¬(1<=n/\n<=(Vagrao.MOSTACCOUNTS:Int))from h1),if_neg (c:=(1<=n/\n<=6)/\(0<=k/\k<=8)) (fun q=>h1 q.1)]
   exact⟨rfl,r⟩
 | set l=>
  unfold Vagrao.step Vagrao.outcome za5
  dsimp only
  rw[zt7,r.plan]
  cases e:zaF m.plan.params l with
  | none=>exact⟨rfl,r⟩
  | some rs=>
   refine⟨?_,rfl,rfl,r.ok,fun ps h=>?_⟩
   ·show [((rs.map fr).length:Int)]=[(m.plan.params:Int)]
    rw[lmm,znb e]
   ·cases h
    exact zkq e hn
 | fault t=>exact other _ (fun _ _ _ h=>by cases h) rfl rfl
 | run t=>exact other _ (fun _ _ _ h=>by cases h) rfl rfl
 | path a t=>exact other _ (fun _ _ _ h=>by cases h) rfl rfl
 | slopes a t=>exact other _ (fun _ _ _ h=>by cases h) rfl rfl
 | table t=>exact other _ (fun _ _ _ h=>by cases h) rfl rfl
 | pull t w=>exact other _ (fun _ _ _ h=>by cases h) rfl rfl
 | elastic a j t=>exact other _ (fun _ _ _ h=>by cases h) rfl rfl
 | whatIf a t l=>exact other _ (fun _ _ _ h=>by cases h;exact hn) rfl rfl
 | aim a j t l=>exact other _ (fun _ _ _ h=>by cases h) rfl rfl
 | first a t l=>exact other _ (fun _ _ _ h=>by cases h) rfl rfl
 | total t=>exact other _ (fun _ _ _ h=>by cases h) rfl rfl
 | code t=>exact other _ (fun _ _ _ h=>by cases h) rfl rfl
end Sp
namespace Sp
open Vagrao (Rule Plan Made Call State R)
def zad(x:List Int):List Int:=(x.length:Int)::x
def flat:Call->List Int
 | .plan a p b r=>[0,a,p]++(zad b++zad r)
 | .set l=>[1]++zad l
 | .fault t=>[2,t]
 | .run t=>[3,t]
 | .path a t=>[4,a,t]
 | .slopes a t=>[5,a,t]
 | .table t=>[6,t]
 | .pull t w=>[7,t]++zad w
 | .elastic a p t=>[8,a,p,t]
 | .whatIf a t l=>[9,a,t]++zad l
 | .aim a p t l=>[10,a,p,t]++zad l
 | .first a t l=>[11,a,t]++zad l
 | .total t=>[12,t]
 | .code t=>[13,t]
def zck(a:Int):Prop:=-(10 ^ 18)<=a/\a<=10 ^ 18
def RowOk(l:List Int):Prop:=Nums l/\l.length<=200
def zgr:Call->Prop
 | .plan a p b r=>zck a/\zck p/\RowOk b/\RowOk r
 | .set l=>RowOk l
 | .fault t=>zck t
 | .run t=>zck t
 | .path a t=>zck a/\zck t
 | .slopes a t=>zck a/\zck t
 | .table t=>zck t
 | .pull t w=>zck t/\RowOk w
 | .elastic a p t=>zck a/\zck p/\zck t
 | .whatIf a t l=>zck a/\zck t/\RowOk l
 | .aim a p t l=>zck a/\zck p/\zck t/\RowOk l
 | .first a t l=>zck a/\zck t/\RowOk l
 | .total t=>zck t
 | .code t=>zck t
def zek:M->List Call->List (List Int)
 | _,[]=>[]
 | m,k::ks=>(za5 m k).2::zek (za5 m k).1 ks
theorem zzF{r x s:List Int}(h:PyFlat.row r=some (x,s)):r=zad x++s:=by
 cases r with
 | nil=>cases h
 | cons n r=>
  have h':(if 0<=n/\n.toNat<=r.length then some (r.take n.toNat,r.drop n.toNat)else none)=some (x,s):=h
  by_cases g:0<=n/\n.toNat<=r.length
  ·rw[if_pos g]at h'
   cases h'
   show n::r=(((r.take n.toNat).length:Nat):Int)::(r.take n.toNat++r.drop n.toNat)
   rw[List.take_append_drop,List.length_take]
   congr 1
   omega
  ·rw[if_neg g]at h'
   cases h'
theorem zsn :∀{k:Nat} {r:List Int} {xs:List (List Int)} {s:List Int},PyFlat.rows k r=some (xs,s)->r=xs.flatMap zad++s
 | 0,r,xs,s,h=>by cases h;rfl
 | k+1,r,xs,s,h=>by
  unfold PyFlat.rows at h
  cases e:PyFlat.row r with
  | none=>rw[e]at h;cases h
  | some y=>
   obtain⟨x,s'⟩:=y
   rw[e]at h
   cases e2:PyFlat.rows k s' with
   | none=>simp only[e2]at h;cases h
   | some z=>
    obtain⟨xs',t⟩:=z
    simp only[e2]at h
    cases h
    rw[zzF e,zsn e2,List.flatMap_cons,lAa]
theorem zyD{sh:Int->Option (Nat×Nat)}{l:List Int}{c:List (List Int)}{t:List Int}(h:PyFlat.call sh l=some (c,t)) :
  ∃p ns xs,c=(p::ns)::xs/\l=(p::ns)++xs.flatMap zad++t:=by
 cases l with
 | nil=>cases h
 | cons p r=>
  unfold PyFlat.call at h
  cases e:sh p with
  | none=>simp only[e]at h;cases h
  | some y=>
   obtain⟨n,k⟩:=y
   simp only[e]at h
   split at h
   ·cases h
   ·cases e2:PyFlat.rows k (r.drop n)with
    | none=>simp only[e2]at h;cases h
    | some z=>
     obtain⟨xs,t'⟩:=z
     simp only[e2]at h
     cases h
     refine⟨p,r.take n,xs,rfl,?_⟩
     rw[lAa,<-zsn e2,List.cons_append,List.take_append_drop]
theorem zua(c:List (List Int)):PyVagrao.whole c=c:=by
 rcases c with _|⟨r,xs⟩
 ·rfl
 rcases r with _|⟨z,ns⟩
 ·rfl
 rcases z with n|n
 rotate_left
 ·rfl
 iterate 14 (rcases n with _|n;rotate_left)
 ·rfl
 all_goals (rcases ns with _|⟨a,_|⟨b,_|⟨d,_|⟨e,ns⟩⟩⟩⟩<;>first|rfl|(rcases xs with _|⟨s,_|⟨t,_|⟨u,xs⟩⟩⟩<;>rfl))
theorem zau{a:Int}(h:VagraoNeutral.whole60 a=true):zck a:=by
 unfold VagraoNeutral.whole60 at h
 rw[bAt,decide_eq_true_eq,decide_eq_true_eq]at h
 exact h
theorem zjd{t:List Int}(h:((t.all fun(z:Int)=>VagraoNeutral.whole60 z)&&decide (t.length<=200))=true):RowOk t:=by
 rw[bAt,decide_eq_true_eq]at h
 exact⟨fun x hx=>zau (List.all_eq_true.mp h.1 x hx),h.2⟩
theorem aT{x y:Bool}(h:(x&&y)=true):x=true/\y=true:=by rwa[bAt]at h
theorem zxn{c:List (List Int)}(h:VagraoNeutral.asked1 c=true) :∃k,VagraoNeutral.callOf c=some k/\zgr k/\∀p ns xs,c=(p::ns)::xs->(p::ns)++xs.flatMap zad=flat k:=by
 have F:false≠true:=nofun
 have w{z n s}{q:List Int}:(z::n)++List.flatMap zad s=q->∀p ns xs,(z::n)::s=(p::ns)::xs->p::ns++xs.flatMap zad=q:=fun h p ns xs e=>by cases e;exact h
 let P(c):=∃k,VagraoNeutral.callOf c=some k/\zgr k/\∀p ns xs,c=(p::ns)::xs->(p::ns)++xs.flatMap zad=flat k
 show P c
 rcases c with _|⟨r,xs⟩
 ·exact absurd h F
 rcases r with _|⟨z,ns⟩
 ·exact absurd h F
 rcases z with n|n
 rotate_left
 ·exact absurd h F
 iterate 14 (rcases n with _|n;rotate_left)
 ·exact absurd h F
 all_goals (rcases ns with _|⟨a,_|⟨b,_|⟨d,_|⟨e,ns⟩⟩⟩⟩<;>first|exact absurd h F|(rcases xs with _|⟨s,_|⟨t,_|⟨u,xs⟩⟩⟩<;>first|exact absurd h F|skip))
 ·exact⟨_,rfl,⟨zau (aT h).1,zau (aT (aT h).2).1,zjd (aT (aT (aT h).2).2).1,zjd (aT (aT (aT h).2).2).2⟩,w (by first|rfl|simp[flat])⟩
 ·exact⟨_,rfl,zjd h,w (by first|rfl|simp[flat])⟩
 ·exact⟨_,rfl,zau h,w (by first|rfl|simp[flat])⟩
 ·exact⟨_,rfl,zau h,w (by first|rfl|simp[flat])⟩
 ·exact⟨_,rfl,⟨zau (aT h).1,zau (aT h).2⟩,w (by first|rfl|simp[flat])⟩
 ·exact⟨_,rfl,⟨zau (aT h).1,zau (aT h).2⟩,w (by first|rfl|simp[flat])⟩
 ·exact⟨_,rfl,zau h,w (by first|rfl|simp[flat])⟩
 ·exact⟨_,rfl,⟨zau (aT h).1,zjd (aT h).2⟩,w (by first|rfl|simp[flat])⟩
 ·exact⟨_,rfl,⟨zau (aT h).1,zau (aT (aT h).2).1,zau (aT (aT h).2).2⟩,w (by first|rfl|simp[flat])⟩
 ·exact⟨_,rfl,⟨zau (aT h).1,zau (aT (aT h).2).1,zjd (aT (aT h).2).2⟩,w (by first|rfl|simp[flat])⟩
 ·exact⟨_,rfl,⟨zau (aT h).1,zau (aT (aT h).2).1,zau (aT (aT (aT h).2).2).1,zjd (aT (aT (aT h).2).2).2⟩,w (by first|rfl|simp[flat])⟩
 ·exact⟨_,rfl,⟨zau (aT h).1,zau (aT (aT h).2).1,zjd (aT (aT h).2).2⟩,w (by first|rfl|simp[flat])⟩
 ·exact⟨_,rfl,zau h,w (by first|rfl|simp[flat])⟩
 ·exact⟨_,rfl,zau h,w (by first|rfl|simp[flat])⟩
theorem zub{k:Call}(h:zgr k):zwO k:=by
 cases k<;>first|trivial|exact h.1|exact h.2.2.1
theorem zqo :∀(f:Nat) (l:List Int) (cs:List (List (List Int))),PyFlat.calls PyVagrao.shape f l=some cs->(cs.map PyVagrao.whole).all VagraoNeutral.asked1=true->
  ∃ks:List Call,l=ks.flatMap flat/\ks.length=cs.length/\(∀k,k∈ks->zgr k)/\∀s m,Rep s m->PyFlat.played VagraoNeutral.step s (cs.map PyVagrao.whole)=zek m ks
 | f,[],cs,h,_=>by
  have e:cs=[]:=by unfold PyFlat.calls at h;cases h;rfl
  subst e
  exact⟨[],rfl,rfl,fun k hk=>(by cases hk),fun s m _=>rfl⟩
 | 0,p::r,cs,h,_=>by unfold PyFlat.calls at h;cases h
 | f+1,p::r,cs,h,ha=>by
  unfold PyFlat.calls at h
  cases e:PyFlat.call PyVagrao.shape (p::r)with
  | none=>rw[e]at h;cases h
  | some y=>
   obtain⟨c,t⟩:=y
   simp only[e]at h
   cases e2:PyFlat.calls PyVagrao.shape f t with
   | none=>simp only[e2]at h;cases h
   | some cs'=>
    simp only[e2]at h
    cases h
    rw[List.map_cons,List.all_cons,bAt,zua]at ha
    obtain⟨k,hk,ok,fk⟩:=zxn ha.1
    obtain⟨ks,h1,h2,h3,h4⟩:=zqo f t cs' e2 ha.2
    obtain⟨p',ns,xs,ec,el⟩:=zyD e
    refine⟨k::ks,?_,by simp[h2],?_,?_⟩
    ·rw[el,fk p' ns xs ec,List.flatMap_cons,<-h1]
    ·intro q hq
     rcases List.mem_cons.mp hq with e3|hq
     ·subst e3;exact ok
     ·exact h3 q hq
    ·intro s m r
     have g:=zAR r k (zub ok)
     rw[List.map_cons,zua]
     have es:VagraoNeutral.step s c=((Vagrao.step s k).1,VagraoNeutral.encode (Vagrao.step s k).2):=by
      unfold VagraoNeutral.step;rw[hk]
     show(VagraoNeutral.step s c).2::PyFlat.played VagraoNeutral.step (VagraoNeutral.step s c).1 (cs'.map PyVagrao.whole)=(za5 m k).2::zek (za5 m k).1 ks
     rw[es]
     rw[g.1,h4 _ _ g.2]
def start:M:=⟨⟨0,0,[],[]⟩,none⟩
def zdU(l:List (List Int)):List Int:=l.flatMap zad
theorem zxo{l:List Int}(h:PyVagrao.answers_asked l=true) :∃ks:List Call,l=ks.flatMap flat/\ks.length<=400/\(∀k,k∈ks->zgr k)/\PyVagrao.answers l=zdU (zek start ks):=by
 unfold PyVagrao.answers_asked at h
 unfold PyVagrao.answers
 unfold PyVagrao.calls at h⊢
 cases e:PyFlat.calls PyVagrao.shape l.length l with
 | none=>rw[e]at h;cases h
 | some cs=>
  rw[e]at h
  have h':(PyFlat.atMost 400 (cs.map PyVagrao.whole)&&VagraoNeutral.asked (cs.map PyVagrao.whole))=true:=h
  unfold VagraoNeutral.asked PyFlat.atMost at h'
  rw[bAt,bAt,decide_eq_true_eq]at h'
  obtain⟨ks,h1,h2,h3,h4⟩:=zqo l.length l cs e h'.2.1
  refine⟨ks,h1,?_,h3,?_⟩
  ·rw[h2,<-lmm (f:=PyVagrao.whole)];exact h'.1
  ·show PyFlat.told (PyFlat.played VagraoNeutral.step Vagrao.start (cs.map PyVagrao.whole))=_
   rw[h4 _ _ zyC]
   rfl
end Sp
namespace Pr
open Sp
def gI(l:List Int)(i:Nat):Int:=l.getD i 0
def zn(S:Int)(x:Int):Rat:=(x:Rat)/(S:Rat)
def zcG(n:Int):Int:=if n<0 then -n else n
def rsv(n:Int):Int:=if zcG n>1 then zcG n else 1
theorem ziY(n:Int):0<rsv n:=by unfold rsv;split<;>omega
theorem zlQ{n:Int}(h:n≠0):0<zcG n:=by unfold zcG;split<;>omega
theorem zAS{n:Int}(h:n≠0):rsv n=zcG n:=by
 have:=zlQ h
 unfold rsv
 split<;>omega
def resQ(ps:List Rat)(k:Nat):Int:=rsv (Sp.get ps k).num
structure Rep(W:Nat)(ps:List Rat)(S:Int)(row:List Int)(x:zt):Prop where
 len:row.length=W
 am:zn S (gI row 0)=x.1
 sl:1<W->∀k,zn (S*resQ ps k) (gI row (k+1))=x.2 k
def za1(f:Int)(row:List Int):List Int:=row.map fun x=>f*x
def zel(a b:List Int):List Int:=List.zipWith (· + ·) a b
def zbX(a b:List Int):List Int:=List.zipWith (· - ·) a b
def zfJ(l:List Int)(i:Nat)(x:Int):List Int:=l.set i (gI l i+x)
def za9(row:List Int)(p:Nat)(n d:Int):List Int:=if 1<row.length then zfJ (za1 n row) (p+1) (gI row 0*d*rsv n)else za1 n row
def sgnD(n d:Int):Int:=if n<0 then -d else d
def zeP(row:List Int)(p:Nat)(n d:Int):List Int:=if 1<row.length then zfJ (za1 (sgnD n d) row) (p+1) (-(gI row 0*d*d))else za1 (sgnD n d) row
def zbu(S:Int)(W p:Nat)(n d:Int):List Int:=if 1<W then((List.replicate W 0).set 0 (n*(S/d))).set (p+1) (S*rsv n)else(List.replicate W 0).set 0 (n*(S/d))
theorem zc9{S:Int}(h:S≠0):(S:Rat)≠0:=by
 intro e
 exact h (by exact_mod_cast e)
theorem zBP(f:Int->Int)(h0:f 0=0)(l:List Int)(i:Nat):gI (l.map f) i=f (gI l i):=by
 unfold gI
 rw[gDm,gDm,gEm]
 cases l[i]? with
 | none=>exact h0.symm
 | some x=>rfl
theorem zyE(f:Int->Int->Int)(h0:f 0 0=0){a b:List Int}(hl:a.length=b.length)(i:Nat):gI (List.zipWith f a b) i=f (gI a i) (gI b i):=by
 unfold gI
 rw[gDm,gDm,gDm,List.getElem?_zipWith]
 by_cases h:i<a.length
 ·rw[gge h,gge (by omega:i<b.length)]
  rfl
 ·rw[List.getElem?_eq_none (by omega:a.length<=i),List.getElem?_eq_none (by omega:b.length<=i)]
  exact h0.symm
theorem zk5{l:List Int}{i:Nat}(h:i<l.length)(x:Int)(j:Nat):gI (l.set i x) j=if j=i then x else gI l j:=by
 unfold gI
 rw[gDm,gDm,List.getElem?_set]
 by_cases e:i=j
 ·subst e;simp[h]
 ·have e':¬j=i:=fun q=>e q.symm
  simp[e,e']
theorem zef(f:Int)(l:List Int)(i:Nat):gI (za1 f l) i=f*gI l i:=zBP (fun x=>f*x) (Int.mul_zero f) l i
theorem zj6{l:List Int}{i:Nat}(h:i<l.length)(x:Int)(j:Nat):gI (zfJ l i x) j=if j=i then gI l j+x else gI l j:=by
 unfold zfJ
 rw[zk5 h]
 by_cases e:j=i
 ·rw[if_pos e,if_pos e,e]
 ·rw[if_neg e,if_neg e]
theorem zzG{x y:zt}(h1:x.1=y.1)(h2 :∀k,x.2 k=y.2 k):x=y:=by
 obtain⟨a,f⟩:=x
 obtain⟨b,g⟩:=y
 have e1:a=b:=h1
 have e2:f=g:=funext h2
 rw[e1,e2]
theorem zrb(W i:Nat):gI (List.replicate W 0) i=0:=by
 unfold gI
 rw[gDm,List.getElem?_replicate]
 split<;>rfl
theorem zoV{S f:Int}(hf:f≠0)(hS:S≠0)(x:Int):zn (S*f) (f*x)=zn S x:=by
 have h1:=zc9 hf
 have h2:=zc9 hS
 unfold zn
 rw[rCm,rCm]
 grind
theorem zhQ(f:Int)(row:List Int):(za1 f row).length=row.length:=by simp[za1]
theorem znc(n:Int):rsv n≠0:=by have:=ziY n;omega
theorem Rep.times{W:Nat}{ps:List Rat}{S f:Int}{row:List Int}{x:zt}(h:Rep W ps S row x)(hf:f≠0)(hS:S≠0):Rep W ps (S*f) (za1 f row) x:=by
 refine⟨by rw[zhQ];exact h.len,?_,fun hw k=>?_⟩
 ·rw[zef,zoV hf hS];exact h.am
 ·rw[zef,Int.mul_right_comm,zoV (S:=S*resQ ps k) hf (Int.mul_ne_zero hS (znc _))];exact h.sl hw k
theorem zgs(S x y:Int):zn S (x+y)=zn S x+zn S y:=by
 unfold zn
 rw[Rat.intCast_add]
 grind
theorem zoW(S x y:Int):zn S (x-y)=zn S x-zn S y:=by
 unfold zn
 rw[Rat.intCast_sub]
 grind
theorem zhR(S:Int):zn S 0=0:=by
 unfold zn
 show(0:Rat)/_=0
 grind
theorem Rep.plus{W:Nat}{ps:List Rat}{S:Int}{a b:List Int}{x y:zt}(h:Rep W ps S a x)(g:Rep W ps S b y):Rep W ps S (zel a b) (dadd x y):=by
 have hl:a.length=b.length:=by rw[h.len,g.len]
 have e :∀i,gI (zel a b) i=gI a i+gI b i:=fun i=>by unfold zel;rw[zyE _ rfl hl]
 refine⟨by simp[zel,h.len,g.len],?_,fun hw k=>?_⟩
 ·rw[e,zgs,h.am,g.am];rfl
 ·rw[e,zgs,h.sl hw,g.sl hw];rfl
theorem Rep.minus{W:Nat}{ps:List Rat}{S:Int}{a b:List Int}{x y:zt}(h:Rep W ps S a x)(g:Rep W ps S b y):Rep W ps S (zbX a b) (dsub x y):=by
 have hl:a.length=b.length:=by rw[h.len,g.len]
 have e :∀i,gI (zbX a b) i=gI a i-gI b i:=fun i=>by unfold zbX;rw[zyE _ rfl hl]
 refine⟨by simp[zbX,h.len,g.len],?_,fun hw k=>?_⟩
 ·rw[e,zoW,h.am,g.am];rfl
 ·rw[e,zoW,h.sl hw,g.sl hw];rfl
theorem zgt(row:List Int)(p:Nat)(n d:Int):(za9 row p n d).length=row.length:=by unfold za9;split<;>simp[zfJ,za1]
theorem znd(row:List Int)(p:Nat)(n d:Int):(zeP row p n d).length=row.length:=by unfold zeP;split<;>simp[zfJ,za1]
theorem zfU(S:Int)(W p:Nat)(n d:Int):(zbu S W p n d).length=W:=by unfold zbu;split<;>simp
theorem Rep.prod{W P:Nat}{ps:List Rat}{S:Int}{row:List Int}{x:zt}(h:Rep W ps S row x)(hW:W=1\/W=P+1){p:Nat}(hp:p<P){n d:Int}(hd:d≠0)(hS:S≠0)(hn:n=(Sp.get ps p).num)(hq:Sp.get ps p=zn d n) :
  Rep W ps (S*d) (za9 row p n d) (dmul x (par ps p)):=by
 have h1:=zc9 hd
 have h2:=zc9 hS
 have hl:=h.len
 have a1:zn (S*d) (n*gI row 0)=x.1*Sp.get ps p:=by
  rw[<-h.am,hq]
  unfold zn
  rw[rCm,rCm]
  grind
 refine⟨by rw[zgt,hl],?_,fun hw k=>?_⟩
 ·show zn (S*d) (gI (za9 row p n d) 0)=x.1*Sp.get ps p
  unfold za9
  split
  ·rw[zj6 (by rw[zhQ];omega),if_neg (by omega),zef,a1]
  ·rw[zef,a1]
 ·show zn (S*d*resQ ps k) (gI (za9 row p n d) (k+1))=x.2 k*Sp.get ps p+x.1*(if p=k then 1 else 0)
  have hr:=znc (Sp.get ps k).num
  have h3:=zc9 hr
  rw[<-h.sl hw k,<-h.am,hq]
  unfold za9 resQ
  rw[if_pos (by omega),zj6 (by rw[zhQ];omega),zef]
  by_cases e:p=k
  ·subst e
   rw[if_pos rfl,if_pos rfl,<-hn]
   rw[<-hn]at h3
   unfold zn
   rw[Rat.intCast_add,rCm,rCm,rCm,rCm,rCm,rCm]
   grind
  ·rw[if_neg (by omega),if_neg e]
   unfold zn
   rw[rCm,rCm,rCm,rCm]
   grind
theorem Rep.quot{W P:Nat}{ps:List Rat}{S:Int}{row:List Int}{x:zt}(h:Rep W ps S row x)(hW:W=1\/W=P+1){p:Nat}(hp:p<P){n d:Int}(hd:d≠0)(hnz:n≠0)(hS:S≠0)(hn:n=(Sp.get ps p).num)(hq:Sp.get ps p=zn d n) :
  Rep W ps (S*zcG n) (zeP row p n d) (ddiv x (par ps p)):=by
 have h1:=zc9 hd
 have h2:=zc9 hS
 have h4:=zc9 hnz
 have hl:=h.len
 have es:(sgnD n d:Rat)/(zcG n:Rat)=(d:Rat)/(n:Rat):=by
  unfold sgnD zcG
  split
  ·rw[Rat.intCast_neg,Rat.intCast_neg];grind
  ·rfl
 have h5:=zc9 (show zcG n≠0 by have:=zlQ hnz;omega)
 have a1 :∀(T y:Int),zn (T*zcG n) (sgnD n d*y)=zn T y/Sp.get ps p:=fun T y=>by
  rw[hq]
  have:zn (T*zcG n) (sgnD n d*y)=zn T y*((sgnD n d:Rat)/(zcG n:Rat)):=by
   unfold zn
   rw[rCm,rCm]
   grind
  rw[this,es]
  unfold zn
  grind
 refine⟨by rw[znd,hl],?_,fun hw k=>?_⟩
 ·show zn (S*zcG n) (gI (zeP row p n d) 0)=x.1/Sp.get ps p
  unfold zeP
  split
  ·rw[zj6 (by rw[zhQ];omega),if_neg (by omega),zef,a1,h.am]
  ·rw[zef,a1,h.am]
 ·show zn (S*zcG n*resQ ps k) (gI (zeP row p n d) (k+1))=x.2 k/Sp.get ps p-x.1/Sp.get ps p/Sp.get ps p*(if p=k then 1 else 0)
  have hr:=znc (Sp.get ps k).num
  have h3:=zc9 hr
  rw[<-h.sl hw k,<-h.am]
  unfold zeP resQ
  rw[if_pos (by omega),zj6 (by rw[zhQ];omega),zef,Int.mul_right_comm]
  by_cases e:p=k
  ·subst e
   rw[if_pos rfl,if_pos rfl,zgs,a1,<-hn]
   rw[<-hn]at h3
   have er:rsv n=zcG n:=zAS hnz
   have e2:(zcG n:Rat)*(zcG n:Rat)=(n:Rat)*(n:Rat):=by
    unfold zcG
    split
    ·rw[Rat.intCast_neg];grind
    ·rfl
   have e3:zn (S*rsv n*zcG n) (-(gI row 0*d*d)) = -(zn S (gI row 0)/Sp.get ps p/Sp.get ps p):=by
    rw[er,hq]
    unfold zn
    rw[Rat.intCast_neg,rCm,rCm,rCm,rCm,Rat.mul_assoc (S:Rat),e2]
    grind
   rw[e3]
   grind
  ·rw[if_neg (by omega),if_neg e,a1]
   grind
theorem Rep.val{W P:Nat}{ps:List Rat}{S:Int}(hW:W=1\/W=P+1){p:Nat}(hp:p<P){n d:Int}(hd:d≠0)(hS:S≠0)(hdv:d∣S)(hn:n=(Sp.get ps p).num)(hq:Sp.get ps p=zn d n) :
  Rep W ps S (zbu S W p n d) (par ps p):=by
 have h1:=zc9 hd
 have h2:=zc9 hS
 have l1:0<(List.replicate W (0:Int)).length:=by rw[List.length_replicate];omega
 have a1:zn S (n*(S/d))=Sp.get ps p:=by
  rw[hq]
  obtain⟨c,rfl⟩:=hdv
  rw[Int.mul_ediv_cancel_left c hd]
  unfold zn
  rw[rCm,rCm]
  rw[rCm]at h2
  grind
 refine⟨zfU _ _ _ _ _,?_,fun hw k=>?_⟩
 ·show zn S (gI (zbu S W p n d) 0)=Sp.get ps p
  unfold zbu
  split
  ·rw[zk5 (by rw[List.length_set,List.length_replicate];omega),if_neg (by omega),zk5 l1,if_pos rfl,a1]
  ·rw[zk5 l1,if_pos rfl,a1]
 ·show zn (S*resQ ps k) (gI (zbu S W p n d) (k+1))=if p=k then 1 else 0
  unfold zbu resQ
  rw[if_pos hw,zk5 (by rw[List.length_set,List.length_replicate];omega)]
  by_cases e:p=k
  ·subst e
   have h3:=zc9 (znc n)
   rw[if_pos rfl,if_pos rfl,<-hn]
   unfold zn
   rw[rCm]
   grind
  ·rw[if_neg (by omega),if_neg e,zk5 l1,if_neg (by omega),zrb,zhR]
theorem Rep.nul(W:Nat)(ps:List Rat)(S:Int):Rep W ps S (List.replicate W 0) dz:=
 ⟨by simp,by rw[zrb,zhR];rfl,fun _ k=>by rw[zrb,zhR];rfl⟩
end Pr
namespace Pr
open Sp
open Vagrao (Rule Plan)
abbrev Sh:=Int×List (List Int)
def zD(rows:List (List Int))(a:Nat):List Int:=rows.getD a []
def zP(f:Int)(sh:Sh):Sh:=if f=1 then sh else(sh.1*f,sh.2.map (za1 f))
def zdV(a:Nat)(row:List Int)(sh:Sh):Sh:=(sh.1,sh.2.set a row)
def growS(a p:Nat)(n d:Int)(sh:Sh):Sh×List Int:=
 let g:=za9 (zD sh.2 a) p n d
 let af:=zP d sh
 let r:=zel (zD af.2 a) g
 (zdV a r af,[gI r 0])
def payS(W a p:Nat)(n d:Int)(sh:Sh):Sh×List Int:=
 let r:=zbX (zD sh.2 a) (zbu sh.1 W p n d)
 (zdV a r sh,[gI r 0])
def moveS(W a b p:Nat)(n d:Int)(sh:Sh):Sh×List Int:=
 let m:=zbu sh.1 W p n d
 let r:=zbX (zD sh.2 a) m
 let s1:=zdV a r sh
 let r2:=zel (zD s1.2 b) m
 (zdV b r2 s1,[gI r 0,gI r2 0])
def shareS(a b p:Nat)(n d:Int)(sh:Sh):Sh×List Int:=
 let m:=za9 (zD sh.2 a) p n d
 let af:=zP d sh
 let r:=zbX (zD af.2 a) m
 let s1:=zdV a r af
 let r2:=zel (zD s1.2 b) m
 (zdV b r2 s1,[gI m 0,gI r 0,gI r2 0])
def pullS(a b p:Nat)(n d:Int)(sh:Sh):Sh×List Int:=
 let m:=za9 (zD sh.2 b) p n d
 let af:=zP d sh
 let r:=zel (zD af.2 a) m
 (zdV a r af,[gI m 0,gI r 0])
def overS(a p:Nat)(n d:Int)(sh:Sh):Sh×List Int:=
 let m:=zeP (zD sh.2 a) p n d
 let af:=zP (zcG n) sh
 (zdV a m af,[gI m 0])
def zdW(W:Nat)(n d:Int)(sh:Sh):Rule->Sh×List Int
 | .grow a p=>growS a p n d sh
 | .pay a p=>payS W a p n d sh
 | .move a b p=>moveS W a b p n d sh
 | .share a b p=>shareS a b p n d sh
 | .pull a b p=>pullS a b p n d sh
 | .over a p=>overS a p n d sh
def zeQ:Rule->Nat
 | .grow _ p=>p
 | .pay _ p=>p
 | .move _ _ p=>p
 | .share _ _ p=>p
 | .pull _ _ p=>p
 | .over _ p=>p
structure zdX(P W:Nat)(ps:List Rat)(sh:Sh)(s:List zt):Prop where
 pos:0<sh.1
 dvd :∀j,j<P->((Sp.get ps j).den:Int)∣sh.1
 wid:W=1\/W=P+1
 rows:sh.2.length=s.length
 rep :∀i row,sh.2[i]? = some row->Rep W ps sh.1 row (dget s i)
theorem zne{rows:List (List Int)}{a:Nat}(h:a<rows.length):rows[a]? = some (zD rows a):=by
 unfold zD
 rw[gDm,gge h]
 rfl
theorem zb9{rows:List (List Int)}{a:Nat}(h:a<rows.length):zD rows a∈rows:=mge (zne h)
theorem zdX.len{P W:Nat}{ps:List Rat}{sh:Sh}{s:List zt}(h:zdX P W ps sh s) :∀row,row∈sh.2->row.length=W:=fun row hr=>by
 obtain⟨i,hi⟩:=List.getElem?_of_mem hr
 exact(h.rep i row hi).len
theorem zdX.row{P W:Nat}{ps:List Rat}{sh:Sh}{s:List zt}(h:zdX P W ps sh s){a:Nat}(ha:a<s.length):Rep W ps sh.1 (zD sh.2 a) (dget s a):=
 h.rep a _ (zne (by rw[h.rows];exact ha))
theorem zdX.stretch{P W:Nat}{ps:List Rat}{sh:Sh}{s:List zt}(h:zdX P W ps sh s){f:Int}(hf:0<f):zdX P W ps (zP f sh) s/\(zP f sh).1=sh.1*f:=by
 have hp:=h.pos
 unfold Pr.zP
 by_cases e:f=1
 ·rw[if_pos e,e,Int.mul_one]
  exact⟨h,rfl⟩
 ·rw[if_neg e]
  refine⟨⟨Int.mul_pos hp hf,fun j hj=>Int.dvd_trans (h.dvd j hj) (Int.dvd_mul_right _ _),h.wid,by rw[lmm];exact h.rows,fun i row hr=>?_⟩,rfl⟩
  rw[gEm]at hr
  cases e2:sh.2[i]? with
  | none=>rw[e2]at hr;cases hr
  | some r0=>
   rw[e2]at hr
   obtain rfl:=oSi hr
   exact(h.rep i r0 e2).times (by omega) (by omega)
theorem zpt{s:List zt}{a:Nat}(ha:a<s.length)(x:zt)(i:Nat):dget (s.set a x) i=if i=a then x else dget s i:=by
 unfold dget
 rw[gDm,gDm,List.getElem?_set]
 by_cases e:a=i
 ·subst e;simp[ha]
 ·have e':¬i=a:=fun q=>e q.symm
  simp[e,e']
theorem zdX.put{P W:Nat}{ps:List Rat}{sh:Sh}{s:List zt}(h:zdX P W ps sh s){a:Nat}(ha:a<s.length){row:List Int}{x:zt}(hx:Rep W ps sh.1 row x):zdX P W ps (zdV a row sh) (s.set a x):=by
 refine⟨h.pos,h.dvd,h.wid,by rw[List.length_set];show(sh.2.set a row).length=_;rw[List.length_set];exact h.rows,fun i r hr=>?_⟩
 have hr':(sh.2.set a row)[i]? = some r:=hr
 rw[zpt ha]
 rw[List.getElem?_set]at hr'
 by_cases e:a=i
 ·subst e
  rw[if_pos rfl,if_pos (by rw[h.rows];exact ha)]at hr'
  obtain rfl:=oSi hr'
  rw[if_pos rfl]
  exact hx
 ·rw[if_neg e]at hr'
  rw[if_neg (fun q=>e q.symm)]
  exact h.rep i r hr'
theorem zgu{a b:List Int}(h:a.length=b.length):(zel a b).length=a.length:=by simp[zel,h]
theorem zib{a b:List Int}(h:a.length=b.length):(zbX a b).length=a.length:=by simp[zbX,h]
theorem zyF(x q:zt):dadd x (dmul x q)=dmul x (dadd dun q):=by
 refine zzG ?_ fun k=>?_
 ·show x.1+x.1*q.1=x.1*(1+q.1)
  grind
 ·show x.2 k+(x.2 k*q.1+x.1*q.2 k)=x.2 k*(1+q.1)+x.1*(0+q.2 k)
  grind
def keptD(ps:List Rat)(s:List zt)(r:Rule):List zt:=match r with
 | .grow _ _=>(zdn ps s r).drop 1
 | _=>zdn ps s r
theorem zrc(q:Rat):q=((q.num:Int):Rat)/(((q.den:Nat):Int):Rat):=by
 rw[<-Rat.divInt_eq_div,Rat.num_divInt_den]
theorem Rep.cast{W:Nat}{ps:List Rat}{S S':Int}{row:List Int}{x y:zt}(h:Rep W ps S row x)(e:S'=S)(e2:x=y):Rep W ps S' row y:=by subst e;subst e2;exact h
theorem zwP{P W:Nat}{ps:List Rat}{sh:Sh}{s:List zt}(h:zdX P W ps sh s){r:Rule}(hr:zcY s.length P r)(hz :∀a p,r=.over a p->Sp.get ps p≠0)
  {n d:Int} (hn:n=(Sp.get ps (zeQ r)).num) (hd:d=((Sp.get ps (zeQ r)).den:Int)) :
  zdX P W ps (zdW W n d sh r).1 (zhA ps s r)/\(zdW W n d sh r).2.map (zn (zdW W n d sh r).1.1)=(keptD ps s r).map (·.1):=by
 have hd0:0<d:=by rw[hd];exact Int.natCast_pos.mpr (Sp.get ps (zeQ r)).den_pos
 have hq:Sp.get ps (zeQ r)=zn d n:=by rw[hn,hd];exact zrc _
 have hS:=h.pos
 have hW:=h.wid
 have hne:sh.1≠0:=by omega
 have hdne:d≠0:=by omega
 cases r with
 | grow a p=>
  obtain⟨ha,hp⟩:=hr
  obtain⟨hst,est⟩:=h.stretch hd0
  have e1:=((h.row ha).prod hW hp hdne hne hn hq).cast est rfl
  have e2:=((hst.row ha).plus e1).cast rfl (zyF _ _)
  exact⟨hst.put ha e2,congrArg (fun z=>[z]) e2.am⟩
 | pay a p=>
  obtain⟨ha,hp⟩:=hr
  have e1:Rep W ps sh.1 (zbu sh.1 W p n d) (par ps p):=Rep.val hW hp hdne hne (by rw[hd];exact h.dvd p hp) hn hq
  have e2:=(h.row ha).minus e1
  exact⟨h.put ha e2,congrArg (fun z=>[z]) e2.am⟩
 | move a b p=>
  obtain⟨ha,hb,hp⟩:=hr
  have e1:Rep W ps sh.1 (zbu sh.1 W p n d) (par ps p):=Rep.val hW hp hdne hne (by rw[hd];exact h.dvd p hp) hn hq
  have e2:=(h.row ha).minus e1
  have h1:=h.put ha e2
  have hb':b<(s.set a (dsub (dget s a) (par ps p))).length:=by rw[List.length_set];exact hb
  have e3:=(h1.row hb').plus e1
  refine⟨h1.put hb' e3,?_⟩
  show [zn sh.1 _,zn sh.1 _]=[(dsub (dget s a) (par ps p)).1,(dadd (dget (s.set a (dsub (dget s a) (par ps p))) b) (par ps p)).1]
  rw[e2.am]
  exact congrArg (fun z=>[_,z]) e3.am
 | share a b p=>
  obtain⟨ha,hb,hp⟩:=hr
  obtain⟨hst,est⟩:=h.stretch hd0
  have e1:=((h.row ha).prod hW hp hdne hne hn hq).cast est rfl
  have e2:=(hst.row ha).minus e1
  have h1:=hst.put ha e2
  have hb':b<(s.set a (dsub (dget s a) (dmul (dget s a) (par ps p)))).length:=by rw[List.length_set];exact hb
  have e3:=(h1.row hb').plus e1
  refine⟨h1.put hb' e3,?_⟩
  show [zn (zP d sh).1 _,zn (zP d sh).1 _,zn (zP d sh).1 _]=[(dmul (dget s a) (par ps p)).1,(dsub (dget s a) (dmul (dget s a) (par ps p))).1,(dadd (dget (s.set a (dsub (dget s a) (dmul (dget s a) (par ps p)))) b) (dmul (dget s a) (par ps p))).1]
  rw[e1.am,e2.am]
  exact congrArg (fun z=>[_,_,z]) e3.am
 | pull a b p=>
  obtain⟨ha,hb,hp⟩:=hr
  obtain⟨hst,est⟩:=h.stretch hd0
  have e1:=((h.row hb).prod hW hp hdne hne hn hq).cast est rfl
  have e2:=(hst.row ha).plus e1
  refine⟨hst.put ha e2,?_⟩
  show [zn (zP d sh).1 _,zn (zP d sh).1 _]=[(dmul (dget s b) (par ps p)).1,(dadd (dget s a) (dmul (dget s b) (par ps p))).1]
  rw[e1.am]
  exact congrArg (fun z=>[_,z]) e2.am
 | over a p=>
  obtain⟨ha,hp⟩:=hr
  have hz':=hz a p rfl
  have hnz:n≠0:=by
   intro e
   apply hz'
   have e2:(Sp.get ps p).num=0:=by rw[<-e,hn];rfl
   exact Rat.num_eq_zero.mp e2
  obtain⟨hst,est⟩:=h.stretch (zlQ hnz)
  have e1:=((h.row ha).quot hW hp hdne hnz hne hn hq).cast est rfl
  exact⟨hst.put ha e1,congrArg (fun z=>[z]) e1.am⟩
end Pr
namespace Pr
open Sp
open Vagraa (bits)
open Vagrao (Rule Plan)
theorem zlR{S:Int}(h:0<S)(x:Int):zn S x=mkRat x S.toNat:=by
 unfold zn
 rw[<-Rat.divInt_eq_div]
 have e:S=((S.toNat:Nat):Int):=by omega
 rw[e,Rat.divInt_ofNat]
 rw[<-e]
theorem zlS{n d:Int}(hd:0<d):n/((Int.gcd n d:Nat):Int)=(zn d n).num:=by
 rw[zlR hd,Rat.num_mkRat,if_neg (by omega)]
 have e:d.toNat.gcd n.natAbs=Int.gcd n d:=by
  rw[Nat.gcd_comm]
  unfold Int.gcd
  congr 1
  omega
 rw[e]
theorem zlT{n d:Int}(hd:0<d):d/((Int.gcd n d:Nat):Int)=((zn d n).den:Int):=by
 rw[zlR hd,Rat.den_mkRat,if_neg (by omega)]
 have e:d.toNat.gcd n.natAbs=Int.gcd n d:=by
  rw[Nat.gcd_comm]
  unfold Int.gcd
  congr 1
  omega
 rw[e,Int.natCast_ediv]
 congr 1
 omega
theorem ziZ{n d:Int}(hd:0<d):0<((Int.gcd n d:Nat):Int):=by
 have:=Int.gcd_pos_of_ne_zero_right n (by omega:d≠0)
 omega
theorem zdE{S:Int}(h:0<S)(x:Int):wt (zn S x)<=bits x.natAbs+bits S.natAbs:=by
 rw[zlR h]
 have:=zt6 x S.toNat (by omega)
 have e:S.toNat=S.natAbs:=by omega
 rw[<-e]
 exact this
def aboveL(x S:Int)(most:Nat):Bool:=if bits x.natAbs+bits S.natAbs<=most then false else decide (most<wt (zn S x))
theorem zso{x S:Int}{most:Nat}(h:0<S):aboveL x S most=decide (most<wt (zn S x)):=by
 unfold aboveL
 by_cases e:bits x.natAbs+bits S.natAbs<=most
 ·rw[if_pos e]
  have:=zdE h x
  exact(decide_eq_false (by omega)).symm
 ·rw[if_neg e]
theorem zuc{m n k:Nat}(hm:bits m<=k)(hn:bits n<=k):bits (m+n)<=k+1:=by
 have lt_of :∀{x},bits x<=k->x<2 ^ k:=fun {x} hx=>by
  unfold bits at hx
  by_cases h:x=0
  ·rw[h];exact Nat.two_pow_pos k
  ·rw[if_neg h]at hx
   exact Nat.lt_of_lt_of_le Nat.lt_log2_self (Nat.pow_le_pow_right (by decide) hx)
 refine zoe ?_
 have h1:=lt_of hm
 have h2:=lt_of hn
 rw[Nat.pow_succ]
 omega
theorem zxp{q:Rat}(h:wt q<=1500):wt (1+q)<=4000:=by
 have e:1+q=mkRat (q.den+q.num) q.den:=by
  rw[Rat.add_def']
  congr 1
  ·show 1*(q.den:Int)+q.num*1=_
   omega
  ·show 1*q.den=q.den
   omega
 have h1:=zt6 (q.den+q.num) q.den q.den_nz
 rw[<-e]at h1
 have h0:bits q.num.natAbs+bits q.den<=1500:=h
 have h2:bits ((q.den:Int)+q.num).natAbs<=1501:=nLt (zgd (by omega:((q.den:Int)+q.num).natAbs<=q.den+q.num.natAbs)) (zuc (by omega) (by omega))
 omega
theorem zzH{ps:List Rat}{s:List zt}{r:Rule}(h:wt (Sp.get ps (zeQ r))<=1500):zbH (zdn ps s r)=zbH (keptD ps s r):=by
 cases r with
 | grow a p=>
  have h':wt (Sp.get ps p)<=1500:=h
  show zbH [dadd dun (par ps p),dmul (dget s a) (dadd dun (par ps p))]=zbH [dmul (dget s a) (dadd dun (par ps p))]
  unfold zbH
  rw[List.any_cons]
  have:decide (Vagrao.HEAVY<wt (dadd dun (par ps p)).1)=false:=decide_eq_false (by
   have:=zxp h'
   show ¬4000<wt (1+Sp.get ps p)
   omega)
  rw[this,Bool.false_or]
 | pay a p=>rfl
 | move a b p=>rfl
 | share a b p=>rfl
 | pull a b p=>rfl
 | over a p=>rfl
theorem zvI{P W:Nat}{ps:List Rat}{sh:Sh}{s:List zt}(h:zdX P W ps sh s){r:Rule}(hr:zcY s.length P r)(hz :∀a p,r=.over a p->Sp.get ps p≠0)
  {n d:Int} (hn:n=(Sp.get ps (zeQ r)).num) (hd:d=((Sp.get ps (zeQ r)).den:Int)) (hw:wt (Sp.get ps (zeQ r))<=1500) :
  ((zdW W n d sh r).2.any fun x=>aboveL x (zdW W n d sh r).1.1 4000)=zbH (zdn ps s r):=by
 obtain⟨h1,h2⟩:=zwP h hr hz hn hd
 have hp:=h1.pos
 rw[zzH hw]
 unfold zbH
 have e:((keptD ps s r).any fun q=>decide (Vagrao.HEAVY<wt q.1))=((keptD ps s r).map (·.1)).any fun q=>decide (Vagrao.HEAVY<wt q):=by
  rw[List.any_map];rfl
 rw[e,<-h2,List.any_map]
 congr 1
 funext x
 exact zso hp
def zdo(a b:Int):Int:=a/((Int.gcd a b:Nat):Int)*b
theorem zog{a b:Int}(ha:0<a)(hb:0<b):0<zdo a b/\a∣zdo a b/\b∣zdo a b:=by
 unfold zdo
 have hg:=ziZ (n:=a) hb
 have hdv:((Int.gcd a b:Nat):Int)∣a:=Int.gcd_dvd_left a b
 obtain⟨c,hc⟩:=hdv
 have hdb:((Int.gcd a b:Nat):Int)∣b:=Int.gcd_dvd_right a b
 obtain⟨e,he⟩:=hdb
 have hq:a/((Int.gcd a b:Nat):Int)=c:=by
  conv=>lhs;lhs;rw[hc]
  rw[Int.mul_ediv_cancel_left c (by omega)]
 rw[hq]
 have hcp:0<c:=by
  by_cases q:0<c
  ·exact q
  ·exfalso
   have:((Int.gcd a b:Nat):Int)*c<=0:=Int.mul_nonpos_of_nonneg_of_nonpos (by omega) (by omega)
   omega
 refine⟨Int.mul_pos hcp hb,⟨e,?_⟩,Int.dvd_mul_left _ _⟩
 generalize ((Int.gcd a b:Nat):Int)=g at hc he
 subst hc
 subst he
 rw[<-Int.mul_assoc,Int.mul_comm c g]
def zaq(ps:List Rat):Int:=ps.foldl (fun S q=>zdo S (q.den:Int)) 1
theorem ziS :∀(l:List Rat) (S:Int),0<S->0<l.foldl (fun S q=>zdo S (q.den:Int)) S/\S∣l.foldl (fun S q=>zdo S (q.den:Int)) S/\∀q,q∈l->(q.den:Int)∣l.foldl (fun S q=>zdo S (q.den:Int)) S
 | [],S,h=>⟨h,Int.dvd_refl S,fun q hq=>by cases hq⟩
 | x::l,S,h=>by
  have hx:0<(x.den:Int):=Int.natCast_pos.mpr x.den_pos
  obtain⟨h1,h2,h3⟩:=zog h hx
  obtain⟨g1,g2,g3⟩:=ziS l _ h1
  refine⟨g1,Int.dvd_trans h2 g2,fun q hq=>?_⟩
  rcases List.mem_cons.mp hq with e|hq
  ·rw[e];exact Int.dvd_trans h3 g2
  ·exact g3 q hq
def zcl(ps:List Rat)(W:Nat):Option Nat->List Int
 | some j=>zbu (zaq ps) W j (Sp.get ps j).num ((Sp.get ps j).den:Int)
 | none=>List.replicate W 0
def zoh(ps:List Rat)(W:Nat)(p:Plan):Sh:=(zaq ps,p.begins.map (zcl ps W))
theorem zxq{p:Plan}(hp:zdg p){ps:List Rat}(hl:ps.length=p.params){W:Nat}(hW:W=1\/W=p.params+1):zdX p.params W ps (zoh ps W p) (zfI ps p):=by
 obtain⟨h1,_,h3⟩:=ziS ps 1 (by decide)
 refine⟨h1,fun j hj=>h3 _ (zof (by omega)),hW,?_,fun i row hr=>?_⟩
 ·show(p.begins.map _).length=(p.begins.map _).length
  rw[lmm,lmm]
 ·have hr':(p.begins.map (zcl ps W))[i]? = some row:=hr
  rw[gEm]at hr'
  cases e:p.begins[i]? with
  | none=>rw[e]at hr';cases hr'
  | some b=>
   rw[e]at hr'
   obtain rfl:=oSi hr'
   have ed:dget (zfI ps p) i=beginD ps b:=by
    show(p.begins.map (beginD ps)).getD i dz=_
    rw[gDm,gEm,e]
    rfl
   rw[ed]
   cases b with
   | none=>exact Rep.nul W ps (zaq ps)
   | some j=>
    have hj:=hp.at_ j (mge e)
    have hd:0<((Sp.get ps j).den:Int):=Int.natCast_pos.mpr (Sp.get ps j).den_pos
    have hsp:0<zaq ps:=h1
    exact Rep.val hW hj (show((Sp.get ps j).den:Int)≠0 by omega) (show zaq ps≠0 by omega) (h3 _ (zof (show j<ps.length by omega))) rfl (zrc _)
end Pr
namespace Pr
open Sp
open Vagraa (bits)
open Vagrao (Rule Plan)
def bI(x:Int):Nat:=bits x.natAbs
theorem zwQ(n:Nat):n<2 ^ bits n:=by
 unfold bits
 by_cases h:n=0
 ·rw[if_pos h,h];decide
 ·rw[if_neg h];exact Nat.lt_log2_self
theorem zbc(x y:Int):bI (x*y)<=bI x+bI y:=by
 unfold bI
 refine zoe ?_
 rw[Int.natAbs_mul,Nat.pow_add]
 have h1:=zwQ x.natAbs
 have h2:=zwQ y.natAbs
 by_cases e:y.natAbs=0
 ·rw[e,Nat.mul_zero]
  exact Nat.mul_pos (Nat.two_pow_pos _) (Nat.two_pow_pos _)
 ·exact Nat.mul_lt_mul_of_lt_of_le h1 (Nat.le_of_lt h2) (Nat.two_pow_pos _)
theorem znf{x y:Int}{k:Nat}(h1:bI x<=k)(h2:bI y<=k):bI (x+y)<=k+1:=
 nLt (zgd (by omega:(x+y).natAbs<=x.natAbs+y.natAbs)) (zuc h1 h2)
theorem zje(x:Int):bI (-x)=bI x:=by unfold bI;rw[Int.natAbs_neg]
theorem zyG{x y:Int}{k:Nat}(h1:bI x<=k)(h2:bI y<=k):bI (x-y)<=k+1:=by
 rw[Int.sub_eq_add_neg]
 exact znf h1 (by rw[zje];exact h2)
theorem zk6{x d:Int}(hd:0<d)(hv:d∣x):bI (x/d)<=bI x:=by
 unfold bI
 refine zgd ?_
 rw[Int.natAbs_ediv_of_dvd hv]
 exact Nat.div_le_self _ _
theorem zrd:bI 0=0:=rfl
def zaU(b:Nat)(row:List Int):Prop:=∀x,x∈row->bI x<=b
structure Sz(b:Nat)(sh:Sh):Prop where
 sc:bI sh.1<=b
 row :∀r,r∈sh.2->zaU b r
theorem zaU.mono{b c:Nat}{row:List Int}(h:zaU b row)(hc:b<=c):zaU c row:=fun x hx=>nLt (h x hx) hc
theorem Sz.mono{b c:Nat}{sh:Sh}(h:Sz b sh)(hc:b<=c):Sz c sh:=⟨nLt h.sc hc,fun r hr=>(h.row r hr).mono hc⟩
theorem zaU.get{b:Nat}{row:List Int}(h:zaU b row)(i:Nat):bI (gI row i)<=b:=by
 unfold gI
 rw[gDm]
 cases e:row[i]? with
 | none=>exact Nat.zero_le _
 | some x=>exact h x (mge e)
theorem zaU.times{b w:Nat}{row:List Int}(h:zaU b row){f:Int}(hf:bI f<=w):zaU (b+w) (za1 f row):=fun x hx=>by
 unfold za1 at hx
 rw[List.mem_map]at hx
 obtain⟨y,hy,rfl⟩:=hx
 have:=zbc f y
 have:=h y hy
 omega
theorem zaU.set{b:Nat}{row:List Int}(h:zaU b row){i:Nat}{x:Int}(hx:bI x<=b):zaU b (row.set i x):=fun y hy=>by
 rcases List.mem_or_eq_of_mem_set hy with hy|hy
 ·exact h y hy
 ·rw[hy];exact hx
theorem zud(n:Int):bI (zcG n)=bI n:=by
 unfold zcG
 split
 ·exact zje n
 ·rfl
theorem zfK(n:Int):bI (rsv n)<=bI n+1:=by
 unfold rsv
 split
 ·rw[zud];omega
 ·have:bI 1=1:=by decide
  omega
theorem zyH(n d:Int):bI (sgnD n d)=bI d:=by
 unfold sgnD
 split
 ·exact zje d
 ·rfl
theorem zaU.prod{b w:Nat}{row:List Int}(h:zaU b row){p:Nat}{n d:Int}(hn:bI n<=w)(hd:bI d<=w):zaU (b+2*w+2) (za9 row p n d):=by
 unfold za9 zfJ
 split
 ·refine((h.times hn).mono (by omega)).set (znf (k:=b+2*w+1) (nLt ((h.times hn).get _) (by omega)) ?_)
  have:=zbc (gI row 0*d) (rsv n)
  have:=zbc (gI row 0) d
  have:=zfK n
  have:=h.get 0
  omega
 ·exact(h.times hn).mono (by omega)
theorem zaU.quot{b w:Nat}{row:List Int}(h:zaU b row){p:Nat}{n d:Int}(hd:bI d<=w):zaU (b+2*w+1) (zeP row p n d):=by
 unfold zeP zfJ
 have hnd:bI (sgnD n d)<=w:=by rw[zyH];exact hd
 split
 ·refine((h.times hnd).mono (by omega)).set (znf (k:=b+2*w) (nLt ((h.times hnd).get _) (by omega)) ?_)
  rw[zje]
  have:=zbc (gI row 0*d) d
  have:=zbc (gI row 0) d
  have:=h.get 0
  omega
 ·exact(h.times hnd).mono (by omega)
theorem zkr{f:Int->Int->Int} :∀{a b:List Int} {x:Int},x∈List.zipWith f a b->∃u v,u∈a/\v∈b/\x=f u v
 | [],_,x,h=>by simp at h
 | _::_,[],x,h=>by simp at h
 | y::a,z::b,x,h=>by
  rw[List.zipWith_cons_cons]at h
  rcases List.mem_cons.mp h with e|h
  ·exact⟨y,z,lMs,lMs,e⟩
  ·obtain⟨u,v,hu,hv,e⟩:=zkr h
   exact⟨u,v,lMc _ hu,lMc _ hv,e⟩
theorem zaU.plus{b:Nat}{r q:List Int}(h1:zaU b r)(h2:zaU b q):zaU (b+1) (zel r q):=fun x hx=>by
 obtain⟨u,v,hu,hv,rfl⟩:=zkr hx
 exact znf (h1 u hu) (h2 v hv)
theorem zaU.minus{b:Nat}{r q:List Int}(h1:zaU b r)(h2:zaU b q):zaU (b+1) (zbX r q):=fun x hx=>by
 obtain⟨u,v,hu,hv,rfl⟩:=zkr hx
 exact zyG (h1 u hu) (h2 v hv)
theorem zaU.val{b w:Nat}{S:Int}{W p:Nat}{n d:Int}(hS:bI S<=b)(hn:bI n<=w)(hd:0<d)(hv:d∣S):zaU (b+w+1) (zbu S W p n d):=by
 unfold zbu
 have h0:zaU (b+w+1) (List.replicate W 0):=fun x hx=>by
  rw[List.mem_replicate]at hx
  rw[hx.2,zrd]
  exact Nat.zero_le _
 have h1:bI (n*(S/d))<=b+w+1:=by
  have:=zbc n (S/d)
  have:=zk6 hd hv
  omega
 split
 ·refine(h0.set h1).set ?_
  have:=zbc S (rsv n)
  have:=zfK n
  omega
 ·exact h0.set h1
theorem Sz.rowAt{b:Nat}{sh:Sh}(h:Sz b sh)(a:Nat):zaU b (zD sh.2 a):=by
 unfold Pr.zD
 rw[gDm]
 cases e:sh.2[a]? with
 | none=>exact fun x hx=>by cases hx
 | some r=>exact h.row r (mge e)
theorem Sz.stretch{b w:Nat}{sh:Sh}(h:Sz b sh){f:Int}(hf:bI f<=w):Sz (b+w) (zP f sh):=by
 unfold Pr.zP
 split
 ·exact h.mono (by omega)
 ·refine⟨?_,fun r hr=>?_⟩
  ·have:=zbc sh.1 f
   have:=h.sc
   show bI (sh.1*f)<=b+w
   omega
  ·have hr':r∈sh.2.map (za1 f):=hr
   rw[List.mem_map]at hr'
   obtain⟨q,hq,rfl⟩:=hr'
   exact(h.row q hq).times hf
theorem Sz.put{b:Nat}{sh:Sh}(h:Sz b sh){a:Nat}{row:List Int}(hr:zaU b row):Sz b (zdV a row sh):=by
 refine⟨h.sc,fun r hm=>?_⟩
 rcases List.mem_or_eq_of_mem_set (show r∈sh.2.set a row from hm)with q|q
 ·exact h.row r q
 ·rw[q];exact hr
theorem zAT{P W:Nat}{ps:List Rat}{sh:Sh}{s:List zt}(o:zdX P W ps sh s){r:Rule}(hr:zcY s.length P r){n d:Int}{b w:Nat}(h:Sz b sh)(hn:bI n<=w)(hd:bI d<=w)(hd':d=((Sp.get ps (zeQ r)).den:Int)) :
  Sz (b+2*w+4) (zdW W n d sh r).1:=by
 have hd0:0<d:=by rw[hd'];exact Int.natCast_pos.mpr (Sp.get ps (zeQ r)).den_pos
 cases r with
 | grow a p=>
  have s1:=h.stretch hd
  exact(s1.mono (by omega)).put ((((s1.rowAt a).mono (by omega:b+w<=b+2*w+2)).plus ((h.rowAt a).prod hn hd)).mono (by omega))
 | pay a p=>
  have hv:d∣sh.1:=by rw[hd'];exact o.dvd p hr.2
  exact(h.mono (by omega)).put ((((h.rowAt a).mono (by omega:b<=b+w+1)).minus (zaU.val h.sc hn hd0 hv)).mono (by omega))
 | move a b' p=>
  have hv:d∣sh.1:=by rw[hd'];exact o.dvd p hr.2.2
  have q:=zaU.val (W:=W) (p:=p) h.sc hn hd0 hv
  have r1:=((h.rowAt a).mono (by omega:b<=b+w+1)).minus q
  have s1:=(h.mono (by omega:b<=b+w+1+1)).put (a:=a) r1
  exact(s1.mono (by omega)).put (((s1.rowAt b').plus (q.mono (by omega))).mono (by omega))
 | share a b' p=>
  have s1:=h.stretch hd
  have q:=(h.rowAt a).prod (p:=p) hn hd
  have r1:=((s1.rowAt a).mono (by omega:b+w<=b+2*w+2)).minus q
  have s2:=(s1.mono (by omega:b+w<=b+2*w+2+1)).put (a:=a) r1
  exact(s2.mono (by omega)).put (((s2.rowAt b').plus (q.mono (by omega))).mono (by omega))
 | pull a b' p=>
  have s1:=h.stretch hd
  exact(s1.mono (by omega)).put ((((s1.rowAt a).mono (by omega:b+w<=b+2*w+2)).plus ((h.rowAt b').prod hn hd)).mono (by omega))
 | over a p=>
  have s1:=h.stretch (show bI (zcG n)<=w by rw[zud];exact hn)
  exact(s1.mono (by omega)).put (((h.rowAt a).quot hd).mono (by omega))
theorem zyI{a b:Int}(ha:0<a)(hb:0<b):bI (zdo a b)<=bI a+bI b:=by
 unfold zdo
 have h1:=zbc (a/((Int.gcd a b:Nat):Int)) b
 have h2:=zk6 (x:=a) (ziZ (n:=a) hb) (Int.gcd_dvd_left a b)
 omega
theorem zpw{w:Nat} :∀(l:List Rat) (S:Int) (b:Nat),0<S->bI S<=b->(∀q,q∈l->bI (q.den:Int)<=w)->bI (l.foldl (fun S q=>zdo S (q.den:Int)) S)<=b+l.length*w
 | [],S,b,_,h,_=>by simpa using h
 | x::l,S,b,hS,h,hw=>by
  have hx:0<(x.den:Int):=Int.natCast_pos.mpr x.den_pos
  have h1:=zyI hS hx
  have h2:=hw x lMs
  have:=zpw (w:=w) l (zdo S (x.den:Int)) (b+w) (zog hS hx).1 (by omega) fun q hq=>hw q (lMc _ hq)
  show bI (l.foldl _ (zdo S (x.den:Int)))<=b+(l.length+1)*w
  rw[Nat.succ_mul]
  omega
theorem zzI{p:Plan}(hp:zdg p){ps:List Rat}(hl:ps.length=p.params)(W:Nat){w:Nat}(hw :∀q,q∈ps->bI q.num<=w/\bI (q.den:Int)<=w):Sz (2+(p.params+1)*w) (zoh ps W p):=by
 obtain⟨h1,_,h3⟩:=ziS ps 1 (by decide)
 have hs:bI (zaq ps)<=1+ps.length*w:=zpw ps 1 1 (by decide) (by decide) fun q hq=>(hw q hq).2
 rw[hl]at hs
 refine⟨?_,fun r hr=>?_⟩
 ·show bI (zaq ps)<=_
  rw[Nat.succ_mul];omega
 ·have hr':r∈p.begins.map (zcl ps W):=hr
  rw[List.mem_map]at hr'
  obtain⟨b,hb,rfl⟩:=hr'
  cases b with
  | none=>
   intro x hx
   have hx':x∈List.replicate W (0:Int):=hx
   rw[List.mem_replicate]at hx'
   rw[hx'.2,zrd]
   exact Nat.zero_le _
  | some j=>
   have hj:=hp.at_ j hb
   have hm:=zof (ps:=ps) (j:=j) (by omega)
   refine(zaU.val (b:=1+p.params*w) (w:=w) hs (hw _ hm).1 (Int.natCast_pos.mpr (Sp.get ps j).den_pos) (h3 _ hm)).mono ?_
   rw[Nat.succ_mul];omega
theorem zeY{q:Rat}{w:Nat}(h:wt q<=w):bI q.num<=w/\bI (q.den:Int)<=w:=by
 have h0:bits q.num.natAbs+bits q.den<=w:=h
 refine⟨?_,?_⟩
 ·unfold bI;omega
 ·unfold bI;rw[Int.natAbs_natCast];omega
end Pr
namespace Pr
open Sp
theorem zsp :∀(l:List Int) (i:Nat) (a b:Int),l[2*i]? = some a->l[2*i+1]? = some b->(pairs l)[i]? = some (mkRat a b.toNat)
 | [],i,a,b,h,_=>by simp at h
 | [n],i,a,b,_,h=>by simp at h
 | n::d::r,0,a,b,h1,h2=>by
  have e1:n=a:=oSi h1
  have e2:d=b:=oSi h2
  subst e1;subst e2
  rfl
 | n::d::r,i+1,a,b,h1,h2=>by
  have e:2*(i+1)=2*i+1+1:=by omega
  rw[e]at h1 h2
  exact zsp r i a b h1 h2
theorem zqp :∀(l:List Int),zdS l=true->∀(i:Nat) (b:Int),l[2*i+1]? = some b->1<=b
 | [],_,i,b,h=>by simp at h
 | [n],_,i,b,h=>by simp at h
 | n::d::r,h,0,b,h2=>by
  have e2:d=b:=oSi h2
  subst e2
  have h':(decide (1<=d)&&zdS r)=true:=h
  rw[bAt,decide_eq_true_eq]at h'
  exact h'.1
 | n::d::r,h,i+1,b,h2=>by
  have h':(decide (1<=d)&&zdS r)=true:=h
  rw[bAt,decide_eq_true_eq]at h'
  have e:2*(i+1)+1=2*i+1+1+1:=by omega
  rw[e]at h2
  exact zqp r h'.2 i b h2
theorem zsq :∀(l:List Int),(∀(i:Nat) (b:Int),l[2*i+1]? = some b->1<=b)->zdS l=true
 | [],_=>rfl
 | [n],_=>rfl
 | n::d::r,h=>by
  show(decide (1<=d)&&zdS r)=true
  rw[bAt,decide_eq_true_eq]
  refine⟨h 0 d rfl,zsq r fun i b hb=>h (i+1) b ?_⟩
  have e:2*(i+1)+1=2*i+1+1+1:=by omega
  rw[e]
  exact hb
theorem zab{α:Type}{l:List α}{i:Nat}{x:α}(h:l[i]? = some x):l.take (i+1)=l.take i++[x]:=by
 rw[List.take_add_one,h];rfl
end Pr
namespace Pr
open Sp
open Vagrao (Rule Plan)
structure zav where
 k:Int
 a:Int
 b:Int
 p:Int
def quads:List Int->List zav
 | k::a::b::p::r=>⟨k,a,b,p⟩::quads r
 | _=>[]
theorem zeZ :∀(l:List Int),(quads l).length=l.length/4
 | []=>rfl
 | [_]=>by show 0=1/4;decide
 | [_,_]=>by show 0=2/4;decide
 | [_,_,_]=>by show 0=3/4;decide
 | k::a::b::p::r=>by
  show(quads r).length+1=(r.length+1+1+1+1)/4
  rw[zeZ r];omega
theorem zsr :∀(l:List Int) (i:Nat) (k a b p:Int),l[4*i]? = some k->l[4*i+1]? = some a->l[4*i+2]? = some b->l[4*i+3]? = some p->(quads l)[i]? = some ⟨k,a,b,p⟩
 | [],i,_,_,_,_,h,_,_,_=>by simp at h
 | [_],i,_,_,_,_,_,h,_,_=>by simp at h
 | [_,_],i,_,_,_,_,_,_,h,_=>by simp at h
 | [_,_,_],i,_,_,_,_,_,_,_,h=>by simp at h
 | x::y::z::u::r,0,k,a,b,p,h1,h2,h3,h4=>by
  have e1:x=k:=oSi h1
  have e2:y=a:=oSi h2
  have e3:z=b:=oSi h3
  have e4:u=p:=oSi h4
  subst e1;subst e2;subst e3;subst e4
  rfl
 | x::y::z::u::r,i+1,k,a,b,p,h1,h2,h3,h4=>by
  have e:4*(i+1)=4*i+1+1+1+1:=by omega
  rw[e]at h1 h2 h3 h4
  exact zsr r i k a b p h1 h2 h3 h4
def okQ(n m:Int)(q:zav):Bool:=
 (decide (0<=q.k)&&decide (q.k<=5)) && !((q.k==0 || q.k==1 || q.k==5) && !decide (q.b=0))&&((decide (0<=q.a)&&decide (q.a<n))&&((decide (0<=q.b)&&decide (q.b<n))&&(decide (0<=q.p)&&decide (q.p<m))))
def zM(q:zav):Rule:=
 if q.k=0 then .grow q.a.toNat q.p.toNat
 else if q.k=1 then .pay q.a.toNat q.p.toNat
 else if q.k=2 then .move q.a.toNat q.b.toNat q.p.toNat
 else if q.k=3 then .share q.a.toNat q.b.toNat q.p.toNat
 else if q.k=4 then .pull q.a.toNat q.b.toNat q.p.toNat
 else .over q.a.toNat q.p.toNat
theorem zqq(n m:Nat) :∀(f:Nat) (l:List Int),l.length<=f->Vagrao.rulesOf n m f l=if l.length%4=0/\(quads l).all (okQ n m)=true then some ((quads l).map zM)else none
 | f,[],_=>by
  unfold Vagrao.rulesOf
  simp[quads]
 | 0,_::_,h=>by simp at h
 | f+1,[_],_=>by unfold Vagrao.rulesOf;simp
 | f+1,[_,_],_=>by unfold Vagrao.rulesOf;simp
 | f+1,[_,_,_],_=>by unfold Vagrao.rulesOf;simp
 | f+1,k::a::b::p::r,h=>by
  have ih:=zqq n m f r (by simp at h;omega)
  have hlen:(k::a::b::p::r).length%4=r.length%4:=by simp only[List.length_cons];omega
  rw[hlen]
  show Vagrao.rulesOf n m (f+1) (k::a::b::p::r)=if r.length%4=0/\(okQ n m ⟨k,a,b,p⟩&&(quads r).all (okQ n m))=true then some (zM ⟨k,a,b,p⟩::(quads r).map zM)else none
  unfold Vagrao.rulesOf
  by_cases g:0<=a/\a<n/\0<=b/\b<n/\0<=p/\p<m
  ·rw[if_pos g]
   dsimp only
   rw[ih]
   have fin :∀o:Option Rule,(o=if okQ n m ⟨k,a,b,p⟩=true then some (zM ⟨k,a,b,p⟩)else none)->
     (match o with
      | some o=>Option.map (fun l=>o::l) (if r.length%4=0/\(quads r).all (okQ n m)=true then some ((quads r).map zM)else none)
      | none=>none)=if r.length%4=0/\(okQ n m ⟨k,a,b,p⟩&&(quads r).all (okQ n m))=true then some (zM ⟨k,a,b,p⟩::(quads r).map zM)else none:=by
    intro o e
    subst e
    by_cases c:okQ n m ⟨k,a,b,p⟩=true
    ·rw[if_pos c,c,Bool.true_and]
     dsimp only
     split<;>rfl
    ·rw[if_neg c]
     dsimp only
     rw[if_neg]
     intro q
     rw[bAt]at q
     exact c q.2.1
   refine fin _ ?_
   obtain⟨g1,g2,g3,g4,g5,g6⟩:=g
   have base:okQ n m ⟨k,a,b,p⟩=((decide (0<=k)&&decide (k<=5)) && !((k==0 || k==1 || k==5) && !decide (b=0))):=by
    unfold okQ
    simp only
    rw[decide_eq_true g1,decide_eq_true g2,decide_eq_true g3,decide_eq_true g4,decide_eq_true g5,decide_eq_true g6]
    simp
   rw[base]
   split
   ·by_cases hb:b=0
    ·rw[if_pos hb,hb];rfl
    ·rw[if_neg hb];simp[hb]
   ·by_cases hb:b=0
    ·rw[if_pos hb,hb];rfl
    ·rw[if_neg hb];simp[hb]
   ·rfl
   ·rfl
   ·rfl
   ·by_cases hb:b=0
    ·rw[if_pos hb,hb];rfl
    ·rw[if_neg hb];simp[hb]
   ·next h0 h1 h2 h3 h4 h5=>
    rw[if_neg]
    intro q
    simp only[bAt,decide_eq_true_eq]at q
    obtain⟨⟨q1,q2⟩,_⟩:=q
    have:k=0\/k=1\/k=2\/k=3\/k=4\/k=5:=by omega
    rcases this with e|e|e|e|e|e
    ·exact h0 e
    ·exact h1 e
    ·exact h2 e
    ·exact h3 e
    ·exact h4 e
    ·exact h5 e
  ·rw[if_neg g,if_neg]
   intro q
   obtain⟨_,q⟩:=q
   rw[bAt]at q
   have q1:=q.1
   unfold okQ at q1
   simp only[bAt,decide_eq_true_eq]at q1
   exact g (by omega)
end Pr
namespace Pr
open Sp
open Vagrao (Rule Plan)
def zhC(ps:List Rat)(t:Nat)(rules:List Rule)(s:List zt)(i:Nat):Res:=(rules.zipIdx.take i).foldl (fun x r=>stepR ps (t,r.2+1) r.1 x) (.ok s)
theorem zxr(ps:List Rat)(t:Nat)(rules:List Rule)(s:List zt):zhC ps t rules s 0=.ok s:=by
 unfold zhC
 rw[List.take_zero]
 rfl
theorem zxs{ps:List Rat}{t:Nat}{rules:List Rule}{s:List zt}{i:Nat}{r:Rule}(h:rules[i]? = some r):zhC ps t rules s (i+1)=stepR ps (t,i+1) r (zhC ps t rules s i):=by
 unfold zhC
 have e:rules.zipIdx[i]? = some (r,i):=by
  rw[List.getElem?_zipIdx,h]
  simp
 rw[zab e,List.foldl_append]
 rfl
theorem zyJ(ps:List Rat)(t:Nat)(rules:List Rule)(s:List zt):zhC ps t rules s rules.length=zfk ps t rules (.ok s):=by
 unfold zhC zfk
 rw[tOl (by rw[List.length_zipIdx];exact nLr _)]
theorem zeR(ps:List Rat)(t:Nat)(e:(Nat×Nat)×Nat) :∀(l:List (Rule×Nat)),l.foldl (fun x r=>stepR ps (t,r.2+1) r.1 x) (.error e)=.error e
 | []=>rfl
 | _::l=>zeR ps t e l
theorem zvJ{ps:List Rat}{t:Nat}{rules:List Rule}{s:List zt}{i:Nat}{e:(Nat×Nat)×Nat}(h:zhC ps t rules s i=.error e):zfk ps t rules (.ok s)=.error e:=by
 unfold zhC at h
 unfold zfk
 have e2:rules.zipIdx=rules.zipIdx.take i++rules.zipIdx.drop i:=(List.take_append_drop i _).symm
 rw[e2,List.foldl_append,h]
 exact zeR ps t e _
def bd(k:Nat):Nat:=2+50*1500+k*3004
theorem zpx{n m:Nat}{q:zav}(h:okQ n m q=true):zcY n m (zM q)/\(0<=q.k/\q.k<=5)/\(0<=q.a/\q.a<n)/\(0<=q.b/\q.b<n)/\(0<=q.p/\q.p<m)/\zeQ (zM q)=q.p.toNat:=by
 unfold okQ at h
 simp only[bAt,decide_eq_true_eq]at h
 obtain⟨⟨⟨h1,h2⟩,_⟩,⟨h3,h4⟩,⟨h5,h6⟩,h7,h8⟩:=h
 refine⟨?_,⟨h1,h2⟩,⟨h3,h4⟩,⟨h5,h6⟩,⟨h7,h8⟩,?_⟩
 ·unfold zM
  split
  ·exact⟨by omega,by omega⟩
  ·split
   ·exact⟨by omega,by omega⟩
   ·split
    ·exact⟨by omega,by omega,by omega⟩
    ·split
     ·exact⟨by omega,by omega,by omega⟩
     ·split
      ·exact⟨by omega,by omega,by omega⟩
      ·exact⟨by omega,by omega⟩
 ·unfold zM
  repeat' split
  all_goals rfl
theorem zvK{q:zav}{a p:Nat}(h:zM q=.over a p):q.k≠0/\q.k≠1/\q.k≠2/\q.k≠3/\q.k≠4/\p=q.p.toNat:=by
 unfold zM at h
 repeat' split at h
 all_goals first|(cases h;done)|skip
 cases h
 exact⟨by omega,by omega,by omega,by omega,by omega,rfl⟩
theorem zvL{q:zav}(h:q.k=5):zM q=.over q.a.toNat q.p.toNat:=by
 unfold zM
 rw[if_neg (by omega),if_neg (by omega),if_neg (by omega),if_neg (by omega),if_neg (by omega)]
theorem zsU{ps:List Rat}{s:List zt}{r:Rule}(h :∀a p,r=.over a p->Sp.get ps p≠0):zbx ps s r=if zbH (zdn ps s r)=true then 2 else 0:=by
 cases r with
 | over a p=>exact if_neg (h a p rfl)
 | grow a p=>rfl
 | pay a p=>rfl
 | move a b p=>rfl
 | share a b p=>rfl
 | pull a b p=>rfl
end Pr
namespace Pr
open Sp (wt)
theorem zss{d:Int}(h:0<d):(0:Rat)<(d:Rat):=by exact_mod_cast h
theorem zb5{d:Int}(h:d≠0):(d:Rat)≠0:=by exact_mod_cast h
theorem zst{d e:Int}(hd:0<d)(he:0<e)(n m:Int):zn (d*e) (n*m)=zn d n*zn e m:=by
 have h1:=zb5 (show d≠0 by omega)
 have h2:=zb5 (show e≠0 by omega)
 unfold zn
 rw[rCm,rCm]
 grind
theorem zyK{d e:Int}(hd:0<d)(he:0<e)(n m:Int):zn (d*e) (n*e+m*d)=zn d n+zn e m:=by
 have h1:=zb5 (show d≠0 by omega)
 have h2:=zb5 (show e≠0 by omega)
 unfold zn
 rw[Rat.intCast_add,rCm,rCm,rCm]
 grind
theorem zsu{d e:Int}(hd:0<d)(he:0<e)(n m:Int):zn (d*e) (n*e-m*d)=zn d n-zn e m:=by
 have h1:=zb5 (show d≠0 by omega)
 have h2:=zb5 (show e≠0 by omega)
 unfold zn
 rw[Rat.intCast_sub,rCm,rCm,rCm]
 grind
theorem zsv{d e:Int}(hd:0<d)(he:0<e)(n:Int){m:Int}(hm:m≠0):zn (d*m) (n*e)=zn d n/zn e m:=by
 have h1:=zb5 (show d≠0 by omega)
 have h2:=zb5 (show e≠0 by omega)
 have h3:=zb5 hm
 unfold zn
 rw[rCm,rCm]
 grind
theorem zsw(d n:Int):zn (-d) (-n)=zn d n:=by
 unfold zn
 rw[Rat.intCast_neg,Rat.intCast_neg]
 grind
theorem zzJ{d e:Int}(hd:0<d)(he:0<e)(n m:Int):zn d n<zn e m↔n*e<m*d:=by
 have h1:=zss hd
 have h2:=zss he
 have h3:((n*e:Int):Rat)<((m*d:Int):Rat)↔n*e<m*d:=by exact_mod_cast Iff.rfl
 rw[<-h3,rCm,rCm]
 unfold zn
 rw[Rat.div_lt_iff h1]
 have e2:(m:Rat)/(e:Rat)*(d:Rat)=((m:Rat)*(d:Rat))/(e:Rat):=by grind
 rw[e2,Rat.lt_div_iff h2]
theorem zyL(n:Int):zn 1 n=(n:Rat):=by
 unfold zn
 have:((1:Int):Rat)=1:=rfl
 rw[this]
 grind
end Pr
namespace Pr
open Sp (wt)
abbrev Fac:=List (Int×Nat)
def zbG:Fac->Int
 | []=>1
 | (f,c)::r=>f ^ c*zbG r
def cntF:Fac->Int->Nat
 | [],_=>0
 | (g,c)::r,f=>if g=f then c else cntF r f
def addF:Fac->Int->Fac
 | [],f=>[(f,1)]
 | (g,c)::r,f=>if g=f then(g,c+1)::r else(g,c)::addF r f
structure zfm(fs:Fac)(S:Int)(n:Nat):Prop where
 nd:(fs.map (·.1)).Nodup
 pos :∀p,p∈fs->0<p.1
 prod:zbG fs=S
 cnt :∀p,p∈fs->p.2<=n
 len:fs.length<=n
theorem zng :∀(a b:Fac),zbG (a++b)=zbG a*zbG b
 | [],b=>by show zbG b=1*zbG b;rw[Int.one_mul]
 | (f,c)::r,b=>by
  show f ^ c*zbG (r++b)=f ^ c*zbG r*zbG b
  rw[zng r b,Int.mul_assoc]
theorem zsx :∀(fs:Fac),(∀p,p∈fs->0<p.1)->0<zbG fs
 | [],_=>by decide
 | (f,c)::r,h=>by
  show 0<f ^ c*zbG r
  exact Int.mul_pos (Int.pow_pos (h (f,c) lMs)) (zsx r fun p hp=>h p (lMc _ hp))
theorem zsy(f:Int) :∀(fs:Fac),zbG (addF fs f)=zbG fs*f
 | []=>by
  show f ^ 1*1=1*f
  rw[Int.pow_succ,Int.pow_zero];omega
 | (g,c)::r=>by
  unfold addF
  split
  ·next e=>
   subst e
   show g ^ (c+1)*zbG r=g ^ c*zbG r*g
   rw[Int.pow_succ,Int.mul_right_comm]
  ·show g ^ c*zbG (addF r f)=g ^ c*zbG r*f
   rw[zsy f r,Int.mul_assoc]
theorem zsz(f x:Int) :∀(fs:Fac),x∈(addF fs f).map (·.1)->x=f\/x∈fs.map (·.1)
 | [],h=>by
  have h':x∈[f]:=h
  exact .inl (by simpa using h')
 | (g,c)::r,h=>by
  unfold addF at h
  split at h
  ·exact .inr h
  ·rw[List.map_cons]at h
   rcases List.mem_cons.mp h with e|h
   ·exact .inr (by rw[List.map_cons];exact List.mem_cons.mpr (.inl e))
   ·rcases zsz f x r h with e|e
    ·exact .inl e
    ·exact .inr (by rw[List.map_cons];exact List.mem_cons.mpr (.inr e))
theorem zwR(f:Int) :∀(fs:Fac),(fs.map (·.1)).Nodup->((addF fs f).map (·.1)).Nodup
 | [],_=>by show [f].Nodup;simp
 | (g,c)::r,h=>by
  unfold addF
  split
  ·exact h
  ·next e=>
   rw[List.map_cons,List.nodup_cons]at h⊢
   refine⟨fun hm=>?_,zwR f r h.2⟩
   rcases zsz f g r hm with q|q
   ·exact e q
   ·exact h.1 q
theorem zue{f:Int}{n:Nat} :∀(fs:Fac) (p:Int×Nat),0<f->(∀p,p∈fs->0<p.1/\p.2<=n)->p∈addF fs f->0<p.1/\p.2<=n+1
 | [],p,hf,_,h=>by
  have h':p∈[(f,1)]:=h
  rw[List.mem_singleton]at h'
  subst h'
  exact⟨hf,show 1<=n+1 by omega⟩
 | (g,c)::r,p,hf,hh,h=>by
  unfold addF at h
  have h0:=hh (g,c) lMs
  split at h
  ·rcases List.mem_cons.mp h with e|h
   ·subst e
    exact⟨h0.1,show c+1<=n+1 by have:c<=n:=h0.2;omega⟩
   ·have:=hh p (lMc _ h)
    exact⟨this.1,by omega⟩
  ·rcases List.mem_cons.mp h with e|h
   ·subst e
    exact⟨h0.1,by have:c<=n:=h0.2;show c<=n+1;omega⟩
   ·exact zue r p hf (fun q hq=>hh q (lMc _ hq)) h
theorem zuf(f:Int) :∀(fs:Fac),(addF fs f).length<=fs.length+1
 | []=>nLr _
 | (g,c)::r=>by
  unfold addF
  split
  ·rw[List.length_cons,List.length_cons];omega
  ·have:=zuf f r
   rw[List.length_cons,List.length_cons];omega
theorem zfm.add{fs:Fac}{S:Int}{n:Nat}(h:zfm fs S n){f:Int}(hf:0<f):zfm (addF fs f) (S*f) (n+1):=by
 have hm:=fun p hp=>zue (n:=n) fs p hf (fun q hq=>⟨h.pos q hq,h.cnt q hq⟩) hp
 refine⟨zwR f fs h.nd,fun p hp=>(hm p hp).1,by rw[zsy,h.prod],fun p hp=>(hm p hp).2,?_⟩
 have:=zuf f fs
 have:=h.len
 omega
theorem zfm.one{S:Int}(h:0<S):zfm [(S,1)] S 1:=by
 refine⟨by simp,fun p hp=>?_,?_,fun p hp=>?_,nLr _⟩
 ·rw[List.mem_singleton]at hp;subst hp;exact h
 ·show S ^ 1*1=S
  rw[Int.pow_succ,Int.pow_zero];omega
 ·rw[List.mem_singleton]at hp;subst hp;exact nLr _
theorem zfm.posS{fs:Fac}{S:Int}{n:Nat}(h:zfm fs S n):0<S:=by rw[<-h.prod];exact zsx fs h.pos
theorem zfm.mono{fs:Fac}{S:Int}{n m:Nat}(h:zfm fs S n)(hm:n<=m):zfm fs S m:=⟨h.nd,h.pos,h.prod,fun p hp=>nLt (h.cnt p hp) hm,nLt h.len hm⟩
def Low(n D x t:Int):Prop:=∃L:Int,0<t/\0<L/\t*L=D/\x*t=n/\Nat.Coprime x.natAbs L.natAbs
theorem Low.start(n:Int):Low n 1 n 1:=⟨1,by decide,by decide,rfl,Int.mul_one n,Nat.coprime_one_right _⟩
theorem Low.turn{n D x t f:Int}(h:Low n D x t)(hf:0<f):Low n (D*f) (x/((Int.gcd x f:Nat):Int)) (t*((Int.gcd x f:Nat):Int)):=by
 obtain⟨L,ht,hL,e1,e2,hc⟩:=h
 have hg:=ziZ (n:=x) hf
 obtain⟨y,hy⟩:=Int.gcd_dvd_left x f
 obtain⟨m,hm⟩:=Int.gcd_dvd_right x f
 have hgn:0<Int.gcd x f:=by omega
 have hcop:Nat.Coprime (x.natAbs/Int.gcd x f) (f.natAbs/Int.gcd x f):=Nat.coprime_div_gcd_div_gcd hgn
 have ey:x.natAbs/Int.gcd x f=y.natAbs:=by
  have:x.natAbs=Int.gcd x f*y.natAbs:=by
   conv=>lhs;rw[hy]
   rw[Int.natAbs_mul,Int.natAbs_natCast]
  rw[this,Nat.mul_div_cancel_left _ hgn]
 have em:f.natAbs/Int.gcd x f=m.natAbs:=by
  have:f.natAbs=Int.gcd x f*m.natAbs:=by
   conv=>lhs;rw[hm]
   rw[Int.natAbs_mul,Int.natAbs_natCast]
  rw[this,Nat.mul_div_cancel_left _ hgn]
 rw[ey,em]at hcop
 have hq:x/((Int.gcd x f:Nat):Int)=y:=by
  conv=>lhs;lhs;rw[hy]
  rw[Int.mul_ediv_cancel_left y (by omega)]
 have hmp:0<m:=by
  by_cases q:0<m
  ·exact q
  ·exfalso
   have:((Int.gcd x f:Nat):Int)*m<=0:=Int.mul_nonpos_of_nonneg_of_nonpos (by omega) (by omega)
   omega
 rw[hq]
 refine⟨L*m,Int.mul_pos ht hg,Int.mul_pos hL hmp,?_,?_,?_⟩
 ·generalize ((Int.gcd x f:Nat):Int)=g at hm
  subst hm
  rw[<-e1]
  grind
 ·generalize ((Int.gcd x f:Nat):Int)=g at hy
  subst hy
  rw[<-e2]
  grind
 ·rw[Int.natAbs_mul]
  refine Nat.Coprime.mul_right (Nat.Coprime.coprime_dvd_left ?_ hc) hcop
  exact⟨Int.gcd x f,by
   conv=>lhs;rw[hy]
   rw[Int.natAbs_mul,Int.natAbs_natCast,Nat.mul_comm]⟩
theorem Low.skip{n D x t f:Int}(h:Low n D x t)(hf:0<f)(hg:Int.gcd x f=1)(k:Nat):Low n (D*f ^ k) x t:=by
 obtain⟨L,ht,hL,e1,e2,hc⟩:=h
 refine⟨L*f ^ k,ht,Int.mul_pos hL (Int.pow_pos hf),by rw[<-e1,Int.mul_assoc],e2,?_⟩
 rw[Int.natAbs_mul,Int.natAbs_pow]
 exact Nat.Coprime.mul_right hc (Nat.Coprime.pow_right k hg)
theorem Low.done{n D x t:Int}(h:Low n D x t):0<t/\t<=D/\x=(zn D n).num/\D/t=((zn D n).den:Int):=by
 obtain⟨L,ht,hL,e1,e2,hc⟩:=h
 have hD:0<D:=by rw[<-e1];exact Int.mul_pos ht hL
 have hq:D/t=L:=by rw[<-e1,Int.mul_ediv_cancel_left L (by omega)]
 have eg:Int.gcd n D=t.natAbs:=by
  rw[<-e1,<-e2]
  unfold Int.gcd
  rw[Int.natAbs_mul,Int.natAbs_mul,Nat.mul_comm t.natAbs,Nat.gcd_mul_right]
  have:Nat.gcd x.natAbs L.natAbs=1:=hc
  rw[this,Nat.one_mul]
 have eg':((Int.gcd n D:Nat):Int)=t:=by rw[eg];omega
 have n1:=zlS (n:=n) hD
 have d1:=zlT (n:=n) hD
 rw[eg']at n1 d1
 refine⟨ht,?_,?_,d1⟩
 ·rw[<-e1]
  have:t*1<=t*L:=Int.mul_le_mul_of_nonneg_left (by omega) (by omega)
  omega
 ·rw[<-n1,<-e2,Int.mul_ediv_cancel x (by omega)]
theorem zwS{x y:Int}(h0:0<=x)(h:x<=y):bI x<=bI y:=Sp.zgd (by omega)
theorem zpy{fs:Fac}{i:Nat}{f:Int}{c:Nat}(h:fs[i]? = some (f,c)):zbG (fs.take (i+1))=zbG (fs.take i)*f ^ c:=by
 rw[zab h,zng]
 show _*(f ^ c*1)=_
 rw[Int.mul_one]
end Pr
namespace Pr
open Sp
theorem zAU{S sh d:Int}(hS:0<S)(hsh:0<sh)(hd:0<d)(hv:d∣sh)(x m:Int):zn (S*sh) (x*m*(sh/d))=zn S x*zn d m:=by
 obtain⟨c,rfl⟩:=hv
 rw[Int.mul_ediv_cancel_left c (by omega)]
 have h1:=zb5 (show S≠0 by omega)
 have h2:=zb5 (show d≠0 by omega)
 have h3:c≠0:=fun e=>by subst e;simp at hsh
 have h4:=zb5 h3
 unfold zn
 rw[rCm,rCm,rCm,rCm]
 grind
def wTerm(sh:Int)(z:Int×Int×Int):Int:=z.1*z.2.1*(sh/z.2.2)
def wRat(S:Int)(z:Int×Int×Int):Rat:=zn S z.1*zn z.2.2 z.2.1
def sumQ(l:List Rat):Rat:=l.foldr (· + ·) 0
theorem znh{S sh:Int}(hS:0<S)(hsh:0<sh) :∀(l:List (Int×Int×Int)),(∀z,z∈l->0<z.2.2/\z.2.2∣sh)->zn (S*sh) (l.map (wTerm sh)).sum=sumQ (l.map (wRat S))
 | [],_=>zhR _
 | z::l,h=>by
  rw[List.map_cons,List.sum_cons,zgs,znh hS hsh l fun y hy=>h y (lMc _ hy)]
  have:=h z lMs
  show zn _ (z.1*z.2.1*(sh/z.2.2))+_=zn S z.1*zn z.2.2 z.2.1+_
  rw[zAU hS hsh this.1 this.2]
  rfl
theorem zqr{S:Int} :∀(l:List Int),zn S l.sum=sumQ (l.map (zn S))
 | []=>zhR _
 | x::l=>by rw[List.sum_cons,zgs,zqr l];rfl
theorem zyM(l:List Rat) :∀a,l.foldl (· + ·) a=a+sumQ l:=by
 induction l with
 | nil=>intro a;show a=a+0;grind
 | cons x l ih=>
  intro a
  rw[List.foldl_cons,ih]
  show a+x+sumQ l=a+(x+sumQ l)
  grind
theorem zwT(l:List Rat):sumR l=sumQ l:=by
 unfold sumR
 rw[zyM]
 grind
theorem zwU{w:Nat}(sh:Int) :∀(l:List (Int×Int×Int)),(∀z,z∈l->bI (wTerm sh z)<=w)->bI (l.map (wTerm sh)).sum<=w+l.length
 | [],_=>by show bI 0<=_;rw[zrd];exact Nat.zero_le _
 | z::l,h=>by
  have h1:=h z lMs
  have h2:=zwU sh l fun y hy=>h y (lMc _ hy)
  rw[List.map_cons,List.sum_cons,List.length_cons]
  exact znf (k:=w+l.length) (by omega) h2
theorem zsA(x:Int) :∀(l:List Int),(l++[x]).sum=l.sum+x
 | []=>by show x+0=0+x;omega
 | y::l=>by rw[List.cons_append,List.sum_cons,List.sum_cons,zsA x l];omega
end Pr
namespace My
open PySem PySem.Spec PyProof.Rows L2
def top(i:Nat):Stmt:=PySem.Challenge.pw_slopeplan_s01_answers.main.body.getD i (.Pass ⟨0,0,0,0⟩)
abbrev zoX:Stmt:=zX (top 10) 0
theorem zug:zx ["self","kind","a","b","p"] ["self","kind","a","b","p"] (zm zoX):=by constructor<;>first|rfl|decide +kernel
abbrev zoY:Stmt:=zX (top 11) 0
theorem zuh:zx ["self","accounts","parameters","begins","rules"] ["self","accounts","parameters","begins","rules"] (zm zoY):=by constructor<;>first|rfl|decide +kernel
abbrev zni:Stmt:=top 12
theorem zic:zx ["begins","accounts","parameters","begin"] ["begins","accounts","parameters"] (zm zni):=by constructor<;>first|rfl|decide +kernel
abbrev znj:Stmt:=top 13
theorem zid:zx ["numbers","rules","place"] ["numbers"] (zm znj):=by constructor<;>first|rfl|decide +kernel
abbrev zsB:Stmt:=top 14
theorem zxt:zx ["rule","accounts","parameters"] ["rule","accounts","parameters"] (zm zsB):=by constructor<;>first|rfl|decide +kernel
abbrev zoZ:Stmt:=top 15
theorem zjf:zx ["numbers","accounts","parameters","rule"] ["numbers","accounts","parameters"] (zm zoZ):=by constructor<;>first|rfl|decide +kernel
abbrev zjg:Stmt:=top 17
theorem zdL:zx ["first","second","rest"] ["first","second"] (zm zjg):=by constructor<;>first|rfl|decide +kernel
abbrev ziG:Stmt:=top 18
theorem zhS:zx ["first","second"] ["first","second"] (zm ziG):=by constructor<;>first|rfl|decide +kernel
abbrev zgv:Stmt:=top 19
theorem zcN:zx ["ratios","found","ratio"] ["ratios"] (zm zgv):=by constructor<;>first|rfl|decide +kernel
abbrev zui:Stmt:=top 20
theorem znk:zx ["numerator","denominator","divisor"] ["numerator","denominator"] (zm zui):=by constructor<;>first|rfl|decide +kernel
abbrev zuj:Stmt:=top 21
theorem zyN:zx ["ratio"] ["ratio"] (zm zuj):=by constructor<;>first|rfl|decide +kernel
abbrev zwV:Stmt:=top 22
theorem zzK:zx ["ratio","other"] ["ratio","other"] (zm zwV):=by constructor<;>first|rfl|decide +kernel
abbrev zyO:Stmt:=top 23
theorem zAV:zx ["ratio","other"] ["ratio","other"] (zm zyO):=by constructor<;>first|rfl|decide +kernel
abbrev znl:Stmt:=top 24
theorem zsV:zx ["ratio","other"] ["ratio","other"] (zm znl):=by constructor<;>first|rfl|decide +kernel
abbrev zsC:Stmt:=top 25
theorem zxu:zx ["ratio","other"] ["ratio","other"] (zm zsC):=by constructor<;>first|rfl|decide +kernel
abbrev zqs:Stmt:=top 26
theorem zvM:zx ["ratio","other"] ["ratio","other"] (zm zqs):=by constructor<;>first|rfl|decide +kernel
abbrev zmt:Stmt:=top 27
theorem zg9:zx ["numbers","count","ratios","place"] ["numbers","count"] (zm zmt):=by constructor<;>first|rfl|decide +kernel
abbrev znm:Stmt:=zX (top 29) 0
theorem zsW:zx ["self","whole","factors"] ["self","whole","factors"] (zm znm):=by constructor<;>first|rfl|decide +kernel
abbrev ziH:Stmt:=zX (top 29) 1
theorem zhT:zx ["self","factor","factors"] ["self","factor"] (zm ziH):=by constructor<;>first|rfl|decide +kernel
abbrev zgw:Stmt:=zX (top 29) 2
theorem zaM:zx ["self","number","taken","factor","count","step","divisor"] ["self","number"] (zm zgw):=by constructor<;>first|rfl|decide +kernel
abbrev zjh:Stmt:=zX (top 29) 3
theorem zos:zx ["self","number","most"] ["self","number","most"] (zm zjh):=by constructor<;>first|rfl|decide +kernel
abbrev znn:Stmt:=zX (top 31) 0
theorem zsX:zx ["self","ratios","scale","rows"] ["self","ratios","scale","rows"] (zm znn):=by constructor<;>first|rfl|decide +kernel
abbrev zo0:Stmt:=zX (top 31) 1
theorem zuk:zx ["self","account","row"] ["self","account","row"] (zm zo0):=by constructor<;>first|rfl|decide +kernel
abbrev zk7:Stmt:=zX (top 31) 2
theorem zqt:zx ["self","a"] ["self","a"] (zm zk7):=by constructor<;>first|rfl|decide +kernel
abbrev zmu:Stmt:=zX (top 31) 3
theorem zre:zx ["self","a","p"] ["self","a","p"] (zm zmu):=by constructor<;>first|rfl|decide +kernel
abbrev zmv:Stmt:=zX (top 31) 4
theorem zha:zx ["self","row"] ["self"] (zm zmv):=by constructor<;>first|rfl|decide +kernel
abbrev zk8:Stmt:=zX (top 31) 5
theorem zgx:zx ["self","p","weights","slopes","row"] ["self","p","weights"] (zm zk8):=by constructor<;>first|rfl|decide +kernel
abbrev zmw:Stmt:=zX (top 31) 6
theorem zfn:zx ["self","a","steps","weights","step","ratio"] ["self","a","steps"] (zm zmw):=by constructor<;>first|rfl|decide +kernel
abbrev zqu:Stmt:=top 32
theorem zdF:zx ["scale","numbers","weights","shared","found","number","ratio"] ["scale","numbers","weights"] (zm zqu):=by constructor<;>first|rfl|decide +kernel
abbrev zsD:Stmt:=top 33
theorem zxv:zx ["ratio"] ["ratio"] (zm zsD):=by constructor<;>first|rfl|decide +kernel
abbrev zmx:Stmt:=top 34
theorem zda:zx ["plan","ratios","has_slopes","denominator","width","sheet","account","begin"] ["plan","ratios","has_slopes"] (zm zmx):=by constructor<;>first|rfl|decide +kernel
abbrev zo1:Stmt:=top 35
theorem zgy:zx ["sheet","p","width","ratio","row"] ["sheet","p","width"] (zm zo1):=by constructor<;>first|rfl|decide +kernel
abbrev zwW:Stmt:=top 36
theorem zpz:zx ["row","factor","number"] ["row","factor"] (zm zwW):=by constructor<;>first|rfl|decide +kernel
abbrev zyP:Stmt:=top 37
theorem zoi:zx ["row","other","left","right"] ["row","other"] (zm zyP):=by constructor<;>first|rfl|decide +kernel
abbrev zwX:Stmt:=top 38
theorem zlU:zx ["row","other","left","right"] ["row","other"] (zm zwX):=by constructor<;>first|rfl|decide +kernel
abbrev zsE:Stmt:=top 39
theorem zqv:zx ["row","p","ratio","found"] ["row","p","ratio"] (zm zsE):=by constructor<;>first|rfl|decide +kernel
abbrev zqw:Stmt:=top 40
theorem zo2:zx ["row","p","ratio","found"] ["row","p","ratio"] (zm zqw):=by constructor<;>first|rfl|decide +kernel
abbrev zo3:Stmt:=top 41
theorem zji:zx ["sheet","factor","row"] ["sheet","factor"] (zm zo3):=by constructor<;>first|rfl|decide +kernel
abbrev zyQ:Stmt:=top 42
theorem zrf:zx ["sheet","rule","ratio","grown","after"] ["sheet","rule","ratio"] (zm zyQ):=by constructor<;>first|rfl|decide +kernel
abbrev zAj:Stmt:=top 43
theorem zul:zx ["sheet","rule","ratio","paid","after"] ["sheet","rule","ratio"] (zm zAj):=by constructor<;>first|rfl|decide +kernel
abbrev zyR:Stmt:=top 44
theorem zrg:zx ["sheet","rule","ratio","moved","after"] ["sheet","rule","ratio"] (zm zyR):=by constructor<;>first|rfl|decide +kernel
abbrev zwY:Stmt:=top 45
theorem zpA:zx ["sheet","rule","ratio","shared","after"] ["sheet","rule","ratio"] (zm zwY):=by constructor<;>first|rfl|decide +kernel
abbrev zyS:Stmt:=top 46
theorem zrh:zx ["sheet","rule","ratio","pulled","after"] ["sheet","rule","ratio"] (zm zyS):=by constructor<;>first|rfl|decide +kernel
abbrev zyT:Stmt:=top 47
theorem zri:zx ["sheet","rule","ratio","divided","after"] ["sheet","rule","ratio"] (zm zyT):=by constructor<;>first|rfl|decide +kernel
abbrev zjj:Stmt:=top 49
theorem zmy:zx ["sheet","rule","work"] ["sheet","rule"] (zm zjj):=by constructor<;>first|rfl|decide +kernel
abbrev zmz:Stmt:=zX (top 54) 0
theorem zrj:zx ["self","plan","ratios","has_slopes"] ["self","plan","ratios","has_slopes"] (zm zmz):=by constructor<;>first|rfl|decide +kernel
abbrev zge:Stmt:=zX (top 54) 1
theorem zks:zx ["self","t"] ["self","t"] (zm zge):=by constructor<;>first|rfl|decide +kernel
abbrev zk9:Stmt:=zX (top 54) 2
theorem zcO:zx ["self","period","sheet","place","rule"] ["self"] (zm zk9):=by constructor<;>first|rfl|decide +kernel
abbrev zla:Stmt:=zX (top 54) 3
theorem zqx:zx ["self","t"] ["self","t"] (zm zla):=by constructor<;>first|rfl|decide +kernel
abbrev zjk:Stmt:=top 55
theorem zfr:zx ["sheet","line"] ["sheet"] (zm zjk):=by constructor<;>first|rfl|decide +kernel
abbrev zj7:Stmt:=zX (top 63) 0
theorem zem:zx ["self","plan","p","begin"] ["self","plan"] (zm zj7):=by constructor<;>first|rfl|decide +kernel
abbrev zjl:Stmt:=zX (top 63) 1
theorem zot:zx ["self","operation","i","j"] ["self","operation","i","j"] (zm zjl):=by constructor<;>first|rfl|decide +kernel
abbrev zfq:Stmt:=zX (top 63) 2
theorem zjm:zx ["self","account","operation","line"] ["self","account","operation","line"] (zm zfq):=by constructor<;>first|rfl|decide +kernel
abbrev zgf:Stmt:=zX (top 63) 3
theorem zdG:zx ["self","rule","part"] ["self","rule"] (zm zgf):=by constructor<;>first|rfl|decide +kernel
abbrev zo4:Stmt:=top 64
theorem zgz:zx ["plan","t","code","period","rule"] ["plan","t"] (zm zo4):=by constructor<;>first|rfl|decide +kernel
abbrev zo5:Stmt:=zX (top 77) 0
theorem zum:zx ["self"] ["self"] (zm zo5):=by constructor<;>first|rfl|decide +kernel
abbrev zo6:Stmt:=zX (top 77) 1
theorem zun:zx ["self","accounts","parameters","begins","rules"] ["self","accounts","parameters","begins","rules"] (zm zo6):=by constructor<;>first|rfl|decide +kernel
abbrev ziI:Stmt:=zX (top 77) 2
theorem zhU:zx ["self","numbers","ratios"] ["self","numbers"] (zm ziI):=by constructor<;>first|rfl|decide +kernel
abbrev zno:Stmt:=zX (top 77) 3
theorem zmA:zx ["self","t","found"] ["self","t"] (zm zno):=by constructor<;>first|rfl|decide +kernel
abbrev zqy:Stmt:=zX (top 77) 4
theorem zfL:zx ["self","t","refused","sheet","a"] ["self","t"] (zm zqy):=by constructor<;>first|rfl|decide +kernel
abbrev zo7:Stmt:=zX (top 77) 5
theorem zgA:zx ["self","a","t","refused","amounts","period"] ["self","a","t"] (zm zo7):=by constructor<;>first|rfl|decide +kernel
abbrev zmB:Stmt:=zX (top 77) 6
theorem zdY:zx ["self","a","t","refused","sheet","p"] ["self","a","t"] (zm zmB):=by constructor<;>first|rfl|decide +kernel
abbrev znp:Stmt:=zX (top 77) 7
theorem zcT:zx ["self","t","refused","sheet","cells","a","p"] ["self","t"] (zm znp):=by constructor<;>first|rfl|decide +kernel
abbrev zo8:Stmt:=zX (top 77) 8
theorem zdZ:zx ["self","t","numbers","weights","refused","sheet","slopes","p"] ["self","t","numbers"] (zm zo8):=by constructor<;>first|rfl|decide +kernel
abbrev zlb:Stmt:=zX (top 77) 9
theorem zdu:zx ["self","a","p","t","refused","sheet","amount","part"] ["self","a","p","t"] (zm zlb):=by constructor<;>first|rfl|decide +kernel
abbrev zlc:Stmt:=zX (top 77) 10
theorem zbD:zx ["self","a","t","numbers","others","refused","trial","actual","steps","guess","other","ratio"] ["self","a","t","numbers"] (zm zlc):=by constructor<;>first|rfl|decide +kernel
abbrev zqz:Stmt:=zX (top 77) 11
theorem zcC:zx ["self","a","p","t","numbers","goals","is_there","refused","sheet","slope","step","found","trial"] ["self","a","p","t","numbers"] (zm zqz):=by constructor<;>first|rfl|decide +kernel
abbrev znq:Stmt:=zX (top 77) 12
theorem zez:zx ["self","a","t","numbers","limits","refused","period","amount"] ["self","a","t","numbers"] (zm znq):=by constructor<;>first|rfl|decide +kernel
abbrev znr:Stmt:=zX (top 77) 13
theorem zmC:zx ["self","t","refused"] ["self","t"] (zm znr):=by constructor<;>first|rfl|decide +kernel
abbrev zo9:Stmt:=zX (top 77) 14
theorem zuo:zx ["self","t"] ["self","t"] (zm zo9):=by constructor<;>first|rfl|decide +kernel
abbrev ziJ:Stmt:=zX (top 77) 15
theorem zns:zx ["self","a"] ["self","a"] (zm ziJ):=by constructor<;>first|rfl|decide +kernel
abbrev zgY:Stmt:=zX (top 77) 16
theorem zlV:zx ["self","p"] ["self","p"] (zm zgY):=by constructor<;>first|rfl|decide +kernel
abbrev ziK:Stmt:=zX (top 77) 17
theorem zhV:zx ["self","p","ratio","ratios"] ["self","p","ratio"] (zm ziK):=by constructor<;>first|rfl|decide +kernel
abbrev zld:Stmt:=zX (top 77) 18
theorem zqA:zx ["self","is_there","is_formed","t"] ["self","is_there","is_formed","t"] (zm zld):=by constructor<;>first|rfl|decide +kernel
abbrev zsF:Stmt:=top 78
theorem zxw:zx ["t"] ["t"] (zm zsF):=by constructor<;>first|rfl|decide +kernel
abbrev zyU:Stmt:=top 79
theorem zrk:zx ["head","ratios","answer","ratio"] ["head","ratios"] (zm zyU):=by constructor<;>first|rfl|decide +kernel
abbrev zmD:Stmt:=zX (top 82) 0
theorem zrl:zx ["self","numbers"] ["self","numbers"] (zm zmD):=by constructor<;>first|rfl|decide +kernel
abbrev zjn:Stmt:=zX (top 82) 1
theorem zou:zx ["self"] ["self"] (zm zjn):=by constructor<;>first|rfl|decide +kernel
abbrev zmE:Stmt:=zX (top 82) 2
theorem zle:zx ["self","number"] ["self"] (zm zmE):=by constructor<;>first|rfl|decide +kernel
abbrev zhW:Stmt:=zX (top 82) 3
theorem zgZ:zx ["self","count","taken"] ["self","count"] (zm zhW):=by constructor<;>first|rfl|decide +kernel
abbrev zhX:Stmt:=zX (top 82) 4
theorem zg0:zx ["self","count","rows"] ["self","count"] (zm zhX):=by constructor<;>first|rfl|decide +kernel
abbrev zsG:Stmt:=top 83
theorem zc1:zx ["calls","reader","book","found","call","shape","numbers","rows","answer"] ["calls"] (zm zsG):=by constructor<;>first|rfl|decide +kernel
abbrev znt:Stmt:=top 84
theorem zsY:zx ["book","call","numbers","rows"] ["book","call","numbers","rows"] (zm znt):=by constructor<;>first|rfl|decide +kernel
abbrev fdOf(n q:Str)(st:Stmt)(kV dc pm:Value)(an:Option Addr)(cd ct:Value):FuncData:=PySem.W.fnOf n q (zk0 st) (ziW st) (zm st) .none kV dc pm an cd ct
set_option genInjectivity false in set_option genSizeOf false in
structure Ad where
 zkv:Addr
 zjq:FuncData
 zkw:Addr
 zjr:FuncData
 zjs:Addr
 zie:FuncData
 zjt:Addr
 zif:FuncData
 znE:Addr
 zl1:FuncData
 zkx:Addr
 zju:FuncData
 zf2:Addr
 zft:FuncData
 zfu:Addr
 ze4:FuncData
 zep:Addr
 zd6:FuncData
 zpG:Addr
 znF:FuncData
 zpH:Addr
 znG:FuncData
 zrA:Addr
 zpI:FuncData
 zuU:Addr
 zrB:FuncData
 zjv:Addr
 zig:FuncData
 znH:Addr
 zl2:FuncData
 zl3:Addr
 zky:FuncData
 zih:Addr
 zhd:FuncData
 zjw:Addr
 zii:FuncData
 zfv:Addr
 ze5:FuncData
 zeq:Addr
 zd7:FuncData
 zf3:Addr
 zfw:FuncData
 zjx:Addr
 zij:FuncData
 zkz:Addr
 zjy:FuncData
 zhe:Addr
 zgH:FuncData
 zik:Addr
 zhf:FuncData
 zil:Addr
 zhg:FuncData
 zhh:Addr
 zgI:FuncData
 zim:Addr
 zhi:FuncData
 zl4:Addr
 zkA:FuncData
 znI:Addr
 zl5:FuncData
 zin:Addr
 zhj:FuncData
 zkB:Addr
 zjz:FuncData
 zrC:Addr
 zpJ:FuncData
 zuV:Addr
 zrD:FuncData
 zrE:Addr
 zpK:FuncData
 znJ:Addr
 zl6:FuncData
 zl7:Addr
 zkC:FuncData
 zkD:Addr
 zjA:FuncData
 zlm:Addr
 zrF:FuncData
 zoq:Addr
 zuW:FuncData
 zln:Addr
 zrG:FuncData
 zi0:Addr
 zpL:FuncData
 zlo:Addr
 zrH:FuncData
 zlp:Addr
 zrI:FuncData
 zgJ:Addr
 zio:FuncData
 ziq:Addr
 zhk:FuncData
 zd8:Addr
 zdI:FuncData
 zhl:Addr
 zgK:FuncData
 zhm:Addr
 zgL:FuncData
 zf4:Addr
 zfx:FuncData
 zgM:Addr
 zf5:FuncData
 zf6:Addr
 zfy:FuncData
 zdp:Addr
 zdk:FuncData
 zd9:Addr
 zdJ:FuncData
 zkE:Addr
 zjB:FuncData
 zkF:Addr
 zjC:FuncData
 zkG:Addr
 zjD:FuncData
 zfz:Addr
 ze6:FuncData
 zjE:Addr
 zir:FuncData
 zl8:Addr
 zkH:FuncData
 zkI:Addr
 zjF:FuncData
 zis:Addr
 zhn:FuncData
 zjG:Addr
 zit:FuncData
 zkJ:Addr
 zjH:FuncData
 zho:Addr
 zgN:FuncData
 zhp:Addr
 zgO:FuncData
 zl9:Addr
 zkK:FuncData
 zjI:Addr
 ziu:FuncData
 zjJ:Addr
 ziv:FuncData
 zkL:Addr
 zjK:FuncData
 zfA:Addr
 ze7:FuncData
 zeK:Addr
 zer:FuncData
 zfB:Addr
 ze8:FuncData
 zhq:Addr
 zgP:FuncData
 znK:Addr
 zma:FuncData
 zuX:Addr
 zrJ:FuncData
 ziw:Addr
 zhr:FuncData
 zf7:Addr
 zfC:FuncData
 zix:Addr
 zhs:FuncData
 ze9:Addr
 zeL:FuncData
 zfa:Addr
 zeM:FuncData
 zka:Addr
 zgQ:FuncData
 zjL:Addr
 ziy:FuncData
 zaH:Addr
 zbY:Addr
 zU:Addr
 zR:Addr
 zao:Addr
 zar:Addr
 zax:Addr
 zaa:Addr
 zfD:Addr
 zlq:Addr
 zmb:Addr
 zmc:Addr
 zmd:Addr
 zme:Addr
 zmf:Addr
 zmg:Addr
 zmh:Addr
 zmi:Addr
 zmj:Addr
 zmk:Addr
 zml:Addr
 zkM:Addr
 zkN:Addr
 zkO:Addr
 zkP:Addr
structure Txt(K:Fg)(mg:Str->Option Value)(A:Ad):Prop where
 zBd:mg "Rule" = some (.ref A.zaH)
 zw3:mg "Plan" = some (.ref A.zbY)
 zuY:mg "Scale" = some (.ref A.zU)
 zpM:mg "Sheet" = some (.ref A.zR)
 znL:mg "Course" = some (.ref A.zao)
 zv3:mg "LineCode" = some (.ref A.zar)
 zBe:mg "Book" = some (.ref A.zax)
 zy7:mg "Reader" = some (.ref A.zaa)
 ztg:mg "are_begins" = some (.ref A.zjs)
 zmK:mg "read_rules" = some (.ref A.zjt)
 zxK:mg "is_rule" = some (.ref A.znE)
 zuZ:mg "are_rules" = some (.ref A.zkx)
 zfE:mg "common_divisor" = some (.ref A.zf2)
 znM:mg "common_multiple" = some (.ref A.zfu)
 zgl:mg "common_denominator" = some (.ref A.zep)
 zh2:mg "lowest" = some (.ref A.zpG)
 zkb:mg "weight" = some (.ref A.zpH)
 zAb:mg "added" = some (.ref A.zrA)
 zrK:mg "less" = some (.ref A.zuU)
 zth:mg "multiplied" = some (.ref A.zjv)
 zqQ:mg "divided" = some (.ref A.znH)
 zv4:mg "is_below" = some (.ref A.zl3)
 zea:mg "read_ratios" = some (.ref A.zih)
 zdz:zbg K A.zU "stretched" A.zfv
 zcf:zbg K A.zU "lowest_terms" A.zeq
 zoB:zbg K A.zU "is_heavy" A.zf3
 zcK:zbg K A.zR "put" A.zkz
 zcn:zbg K A.zR "amount" A.zhe
 zfp:zbg K A.zR "slope" A.zik
 zrL:zbg K A.zR "total" A.zil
 zqR:zbg K A.zR "pulled" A.zhh
 zrM:zbg K A.zR "guess" A.zim
 zpf:mg "weighted" = some (.ref A.zl4)
 zgR:mg "reserve" = some (.ref A.znI)
 zrN:mg "first_sheet" = some (.ref A.zin)
 zjM:mg "value_row" = some (.ref A.zkB)
 zpN:mg "times" = some (.ref A.zrC)
 zor:mg "plus" = some (.ref A.zuV)
 zpO:mg "minus" = some (.ref A.zrE)
 zmm:mg "product" = some (.ref A.znJ)
 zv5:mg "quotient" = some (.ref A.zl7)
 zeb:mg "stretched" = some (.ref A.zkD)
 zCl:mg "grow" = some (.ref A.zlm)
 zCp:mg "pay" = some (.ref A.zoq)
 zCm:mg "move" = some (.ref A.zln)
 zCj:mg "share" = some (.ref A.zi0)
 zCn:mg "pull" = some (.ref A.zlo)
 zCo:mg "over" = some (.ref A.zlp)
 zti:mg "after_rule" = some (.ref A.zgJ)
 zcE:zbg K A.zao "fault_within" A.zd8
 zqS:zbg K A.zao "go_on" A.zhl
 za0:zbg K A.zao "after" A.zhm
 zoC:mg "has_heavy_line" = some (.ref A.zf4)
 zdM:zbg K A.zar "write" A.zf6
 zaJ:zbg K A.zar "write_change" A.zdp
 zkQ:zbg K A.zar "write_rule" A.zd9
 zu0:mg "line_code" = some (.ref A.zkE)
 zu1:zbg K A.zax "plan" A.zkG
 znN:zbg K A.zax "set_values" A.zfz
 ztj:zbg K A.zax "fault" A.zjE
 zv6:zbg K A.zax "run" A.zl8
 zu2:zbg K A.zax "path" A.zkI
 zrO:zbg K A.zax "slopes" A.zis
 ztk:zbg K A.zax "table" A.zjG
 zu3:zbg K A.zax "pull" A.zkJ
 zqT:zbg K A.zax "elastic" A.zho
 zqU:zbg K A.zax "what_if" A.zhp
 zv7:zbg K A.zax "aim" A.zl9
 ztl:zbg K A.zax "first" A.zjI
 ztm:zbg K A.zax "total" A.zjJ
 zu4:zbg K A.zax "code" A.zkL
 zcg:zbg K A.zax "is_account" A.zfA
 zgS:zbg K A.zax "is_parameter" A.zeK
 znO:zbg K A.zax "trial_with" A.zfB
 zbn:zbg K A.zax "refusal" A.zhq
 zb3:mg "is_time" = some (.ref A.znK)
 zec:mg "told" = some (.ref A.zuX)
 zoD:zbg K A.zaa "is_done" A.zf7
 zlr:zbg K A.zaa "take" A.zix
 zg2:zbg K A.zaa "take_many" A.ze9
 zmW:zbg K A.zaa "take_rows" A.zfa
 zxL:mg "answers" = some (.ref A.zka)
 ztn:mg "answer_one" = some (.ref A.zjL)
 zG:Cls K A.zaH
 zBf:Mk K A.zaH A.zkv
 zaI:Cls K A.zbY
 zw4:Mk K A.zbY A.zkw
 zbt:Cls K A.zU
 zu5:Mk K A.zU A.zjw
 zz:Cls K A.zR
 zpP:Mk K A.zR A.zjx
 zO:Cls K A.zao
 znP:Mk K A.zao A.ziq
 zN:Cls K A.zar
 zv8:Mk K A.zar A.zgM
 zB:Cls K A.zax
 zBg:Mk K A.zax A.zkF
 zbp:Cls K A.zaa
 zy8:Mk K A.zaa A.ziw
 znQ:Fun K "__init__" "Rule.__init__" zoX A.zkv A.zjq
 znR:Fun K "__init__" "Plan.__init__" zoY A.zkw A.zjr
 ziz:Fun K "are_begins" "are_begins" zni A.zjs A.zie
 zfX:Fun K "read_rules" "read_rules" znj A.zjt A.zif
 zmn:Fun K "is_rule" "is_rule" zsB A.znE A.zl1
 zjN:Fun K "are_rules" "are_rules" zoZ A.zkx A.zju
 zcZ:Fun K "common_divisor" "common_divisor" zjg A.zf2 A.zft
 zfb:Fun K "common_multiple" "common_multiple" ziG A.zfu A.ze4
 zcR:Fun K "common_denominator" "common_denominator" zgv A.zep A.zd6
 zfc:Fun K "lowest" "lowest" zui A.zpG A.znF
 zgm:Fun K "weight" "weight" zuj A.zpH A.znG
 zpQ:Fun K "added" "added" zwV A.zrA A.zpI
 zls:Fun K "less" "less" zyO A.zuU A.zrB
 ziA:Fun K "multiplied" "multiplied" znl A.zjv A.zig
 ziU:Fun K "divided" "divided" zsC A.znH A.zl2
 zkR:Fun K "is_below" "is_below" zqs A.zl3 A.zky
 zcx:Fun K "read_ratios" "read_ratios" zmt A.zih A.zhd
 zmL:Fun K "__init__" "Scale.__init__" znm A.zjw A.zii
 zh3:Fun K "stretched" "Scale.stretched" ziH A.zfv A.ze5
 zgn:Fun K "lowest_terms" "Scale.lowest_terms" zgw A.zeq A.zd7
 ziM:Fun K "is_heavy" "Scale.is_heavy" zjh A.zf3 A.zfw
 zmM:Fun K "__init__" "Sheet.__init__" znn A.zjx A.zij
 znS:Fun K "put" "Sheet.put" zo0 A.zkz A.zjy
 zkc:Fun K "amount" "Sheet.amount" zk7 A.zhe A.zgH
 zlt:Fun K "slope" "Sheet.slope" zmu A.zik A.zhf
 zlu:Fun K "total" "Sheet.total" zmv A.zil A.zhg
 zkd:Fun K "pulled" "Sheet.pulled" zk8 A.zhh A.zgI
 zlv:Fun K "guess" "Sheet.guess" zmw A.zim A.zhi
 zhG:Fun K "weighted" "weighted" zqu A.zl4 A.zkA
 zes:Fun K "reserve" "reserve" zsD A.znI A.zl5
 zht:Fun K "first_sheet" "first_sheet" zmx A.zin A.zhj
 zfd:Fun K "value_row" "value_row" zo1 A.zkB A.zjz
 zjO:Fun K "times" "times" zwW A.zrC A.zpJ
 zi1:Fun K "plus" "plus" zyP A.zuV A.zrD
 zjP:Fun K "minus" "minus" zwX A.zrE A.zpK
 zgT:Fun K "product" "product" zsE A.znJ A.zl6
 zkS:Fun K "quotient" "quotient" zqw A.zl7 A.zkC
 zcL:Fun K "stretched" "stretched" zo3 A.zkD A.zjA
 zrP:Fun K "grow" "grow" zyQ A.zlm A.zrF
 zu6:Fun K "pay" "pay" zAj A.zoq A.zuW
 zrQ:Fun K "move" "move" zyR A.zln A.zrG
 zpR:Fun K "share" "share" zwY A.zi0 A.zpL
 zrR:Fun K "pull" "pull" zyS A.zlo A.zrH
 zrS:Fun K "over" "over" zyT A.zlp A.zrI
 ziB:Fun K "after_rule" "after_rule" zjj A.zgJ A.zio
 zlw:Fun K "__init__" "Course.__init__" zmz A.ziq A.zhk
 zfO:Fun K "fault_within" "Course.fault_within" zge A.zd8 A.zdI
 zke:Fun K "go_on" "Course.go_on" zk9 A.zhl A.zgK
 zkf:Fun K "after" "Course.after" zla A.zhm A.zgL
 zfF:Fun K "has_heavy_line" "has_heavy_line" zjk A.zf4 A.zfx
 zjQ:Fun K "__init__" "LineCode.__init__" zj7 A.zgM A.zf5
 ziN:Fun K "write" "LineCode.write" zjl A.zf6 A.zfy
 zfe:Fun K "write_change" "LineCode.write_change" zfq A.zdp A.zdk
 zfP:Fun K "write_rule" "LineCode.write_rule" zgf A.zd9 A.zdJ
 zjR:Fun K "line_code" "line_code" zo4 A.zkE A.zjB
 znT:Fun K "__init__" "Book.__init__" zo5 A.zkF A.zjC
 znU:Fun K "plan" "Book.plan" zo6 A.zkG A.zjD
 zh4:Fun K "set_values" "Book.set_values" ziI A.zfz A.ze6
 zmN:Fun K "fault" "Book.fault" zno A.zjE A.zir
 zpg:Fun K "run" "Book.run" zqy A.zl8 A.zkH
 znV:Fun K "path" "Book.path" zo7 A.zkI A.zjF
 zlx:Fun K "slopes" "Book.slopes" zmB A.zis A.zhn
 zmO:Fun K "table" "Book.table" znp A.zjG A.zit
 znW:Fun K "pull" "Book.pull" zo8 A.zkJ A.zjH
 zkg:Fun K "elastic" "Book.elastic" zlb A.zho A.zgN
 zkh:Fun K "what_if" "Book.what_if" zlc A.zhp A.zgO
 zph:Fun K "aim" "Book.aim" zqz A.zl9 A.zkK
 zmP:Fun K "first" "Book.first" znq A.zjI A.ziu
 zmQ:Fun K "total" "Book.total" znr A.zjJ A.ziv
 znX:Fun K "code" "Book.code" zo9 A.zkL A.zjK
 zh5:Fun K "is_account" "Book.is_account" ziJ A.zfA A.ze7
 zgU:Fun K "is_parameter" "Book.is_parameter" zgY A.zeK A.zer
 zh6:Fun K "trial_with" "Book.trial_with" ziK A.zfB A.ze8
 zki:Fun K "refusal" "Book.refusal" zld A.zhq A.zgP
 zbF:Fun K "is_time" "is_time" zsF A.znK A.zma
 zdc:Fun K "told" "told" zyU A.zuX A.zrJ
 zly:Fun K "__init__" "Reader.__init__" zmD A.ziw A.zhr
 ziO:Fun K "is_done" "Reader.is_done" zjn A.zf7 A.zfC
 zlz:Fun K "take" "Reader.take" zmE A.zix A.zhs
 zg3:Fun K "take_many" "Reader.take_many" zhW A.ze9 A.zeL
 zg4:Fun K "take_rows" "Reader.take_rows" zhX A.zfa A.zeM
 zmo:Fun K "answers" "answers" zsG A.zka A.zgQ
 ziC:Fun K "answer_one" "answer_one" znt A.zjL A.ziy
 zbK:zaL K A.zaH "kind"
 zaA:zaL K A.zaH "a"
 zcM:zaL K A.zaH "b"
 zbf:zaL K A.zaH "p"
 zbL:zaL K A.zbY "accounts"
 zac:zaL K A.zbY "parameters"
 zhu:zaL K A.zbY "begins"
 zfY:zaL K A.zbY "rules"
 zdd:zaL K A.zU "whole"
 zf8:zaL K A.zU "factors"
 zbU:zaL K A.zR "ratios"
 zbi:zaL K A.zR "scale"
 z7:zaL K A.zR "rows"
 zed:zaL K A.zR "lines"
 zgV:zaL K A.zao "plan_rules"
 zb6:zaL K A.zao "ratios"
 zcy:zaL K A.zao "sheets"
 zbj:zaL K A.zao "first_fault"
 zjS:zaL K A.zar "zero"
 zkj:zaL K A.zar "one"
 zc2:zaL K A.zar "how_many"
 zcv:zaL K A.zar "numbers"
 zbb:zaL K A.zar "account_lines"
 zai:zaL K A.zax "held"
 z8:zaL K A.zax "course"
 zdN:zaL K A.zaa "numbers"
 zco:zaL K A.zaa "place"
 zB0 :∃t,mg "GROW" = some (.int (0) t)
 zCg :∃t,mg "PAY" = some (.int (1) t)
 zB1 :∃t,mg "MOVE" = some (.int (2) t)
 zBh :∃t,mg "SHARE" = some (.int (3) t)
 zB2 :∃t,mg "PULL" = some (.int (4) t)
 zy9 :∃t,mg "OVER" = some (.int (5) t)
 zv9 :∃t,mg "LAST_KIND" = some (.int (5) t)
 ziD :∃t,mg "RULE_LENGTH" = some (.int (4) t)
 znY :∃t,mg "DIVISION_BY_ZERO" = some (.int (1) t)
 zwa :∃t,mg "TOO_HEAVY" = some (.int (2) t)
 zto :∃t,mg "LINE_WEIGHT" = some (.int (4000) t)
 zBi :∃t,mg "INPUT" = some (.int (0) t)
 zqV :∃t,mg "CONSTANT" = some (.int (1) t)
 ztC :∃t,mg "SUM" = some (.int (2) t)
 zjT :∃t,mg "DIFFERENCE" = some (.int (3) t)
 znZ :∃t,mg "PRODUCT" = some (.int (4) t)
 zxM :∃t,mg "QUOTIENT" = some (.int (5) t)
 zhH :∃t,mg "NOT_THERE" = some (.int (-1) t)
 zjU :∃t,mg "WRONG_FORM" = some (.int (-2) t)
 zpi :∃t,mg "NO_VALUES" = some (.int (-4) t)
 zpj :∃t,mg "HAS_FAULT" = some (.int (-5) t)
 zjV :∃t,mg "TOLD_TOO_HEAVY" = some (.int (-6) t)
 zpS :∃t,mg "TOO_MANY_RULES" = some (.int (-7) t)
 zqW :∃t,mg "MOST_ACCOUNTS" = some (.int (6) t)
 zoE :∃t,mg "MOST_PARAMETERS" = some (.int (8) t)
 zu7 :∃t,mg "MOST_RULES" = some (.int (10) t)
 zrT :∃t,mg "MOST_PERIODS" = some (.int (20) t)
 zmR :∃t,mg "TOLD_WEIGHT" = some (.int (1500) t)
 zoF:mg "KINDS_WITHOUT_B" = some (.ref A.zfD)
 zBj:mg "KINDS" = some (.ref A.zlq)
 zAc:mg "SHAPES" = some (.ref A.zmb)
 zoG :∀H,SqT K H A.zfD [.int (0),.int (1),.int (5)]
 zBk :∀H,SqT K H A.zlq [.ref A.zlm,.ref A.zoq,.ref A.zln,.ref A.zi0,.ref A.zlo,.ref A.zlp]
 zAd:MDict K A.zmb [(0,.ref A.zmc),(1,.ref A.zmd),(2,.ref A.zme),(3,.ref A.zmf),(4,.ref A.zmg),(5,.ref A.zmh),(6,.ref A.zmi),(7,.ref A.zmj),(8,.ref A.zmk),(9,.ref A.zml),(10,.ref A.zkM),(11,.ref A.zkN),(12,.ref A.zkO),(13,.ref A.zkP)]
 zxN :∀H,SqT K H A.zmc [.int (2),.int (2)]
 zxO :∀H,SqT K H A.zmd [.int (0),.int (1)]
 zxP :∀H,SqT K H A.zme [.int (1),.int (0)]
 zxQ :∀H,SqT K H A.zmf [.int (1),.int (0)]
 zxR :∀H,SqT K H A.zmg [.int (2),.int (0)]
 zxS :∀H,SqT K H A.zmh [.int (2),.int (0)]
 zxT :∀H,SqT K H A.zmi [.int (1),.int (0)]
 zxU :∀H,SqT K H A.zmj [.int (1),.int (1)]
 zxV :∀H,SqT K H A.zmk [.int (3),.int (0)]
 zxW :∀H,SqT K H A.zml [.int (2),.int (1)]
 zwb :∀H,SqT K H A.zkM [.int (3),.int (1)]
 zwc :∀H,SqT K H A.zkN [.int (2),.int (1)]
 zwd :∀H,SqT K H A.zkO [.int (1),.int (0)]
 zwe :∀H,SqT K H A.zkP [.int (1),.int (0)]
 zza:mg "abs" = none
 zzb:mg "all" = none
 zB3:mg "any" = none
 zBl:mg "dict" = none
 zn0:mg "enumerate" = none
 zcw:mg "len" = none
 zlA:mg "list" = none
 zB4:mg "max" = none
 zcW:mg "range" = none
 zB5:mg "sum" = none
 zn1:mg "zip" = none
section
variable {K:Fg}{mg:Str->Option Value}{A:Ad}(T:Txt K mg A)
theorem Txt.zwf(T:Txt K mg A):zE K A.zjq ["self","kind","a","b","p"] []:=T.znQ.b5 fun _ _ _ _ _ _ _ _ _ _ _=>rfl
theorem Txt.zpk(T:Txt K mg A):zE K A.zjr ["self","accounts","parameters","begins","rules"] []:=T.znR.b5 fun _ _ _ _ _ _ _ _ _ _ _=>rfl
theorem Txt.zu8(T:Txt K mg A):zE K A.zie ["begins","accounts","parameters"] []:=T.ziz.b3 fun _ _ _ _ _ _ _ _ _=>rfl
theorem Txt.zn2(T:Txt K mg A):zE K A.zif ["numbers"] []:=T.zfX.b1 fun _ _ _ _ _ _ _=>rfl
theorem Txt.zzc(T:Txt K mg A):zE K A.zl1 ["rule","accounts","parameters"] []:=T.zmn.b3 fun _ _ _ _ _ _ _ _ _=>rfl
theorem Txt.zwg(T:Txt K mg A):zE K A.zju ["numbers","accounts","parameters"] []:=T.zjN.b3 fun _ _ _ _ _ _ _ _ _=>rfl
theorem Txt.zf9(T:Txt K mg A):zE K A.zft ["first","second"] []:=T.zcZ.b2 fun _ _ _ _ _ _ _ _=>rfl
theorem Txt.zoH(T:Txt K mg A):zE K A.ze4 ["first","second"] []:=T.zfb.b2 fun _ _ _ _ _ _ _ _=>rfl
theorem Txt.zgW(T:Txt K mg A):zE K A.zd6 ["ratios"] []:=T.zcR.b1 fun _ _ _ _ _ _ _=>rfl
theorem Txt.zjW(T:Txt K mg A):zE K A.znF ["numerator","denominator"] []:=T.zfc.b2 fun _ _ _ _ _ _ _ _=>rfl
theorem Txt.zmp(T:Txt K mg A):zE K A.znG ["ratio"] []:=T.zgm.b1 fun _ _ _ _ _ _ _=>rfl
theorem Txt.zBm(T:Txt K mg A):zE K A.zpI ["ratio","other"] []:=T.zpQ.b2 fun _ _ _ _ _ _ _ _=>rfl
theorem Txt.zu9(T:Txt K mg A):zE K A.zrB ["ratio","other"] []:=T.zls.b2 fun _ _ _ _ _ _ _ _=>rfl
theorem Txt.zva(T:Txt K mg A):zE K A.zig ["ratio","other"] []:=T.ziA.b2 fun _ _ _ _ _ _ _ _=>rfl
theorem Txt.zsQ(T:Txt K mg A):zE K A.zl2 ["ratio","other"] []:=T.ziU.b2 fun _ _ _ _ _ _ _ _=>rfl
theorem Txt.zxX(T:Txt K mg A):zE K A.zky ["ratio","other"] []:=T.zkR.b2 fun _ _ _ _ _ _ _ _=>rfl
theorem Txt.zeC(T:Txt K mg A):zE K A.zhd ["numbers","count"] []:=T.zcx.b2 fun _ _ _ _ _ _ _ _=>rfl
theorem Txt.zn3(T:Txt K mg A):zE K A.zii ["self","whole","factors"] []:=T.zmL.b3 fun _ _ _ _ _ _ _ _ _=>rfl
theorem Txt.zdO(T:Txt K mg A):zE K A.ze5 ["self","factor"] []:=T.zh3.b2 fun _ _ _ _ _ _ _ _=>rfl
theorem Txt.zcp(T:Txt K mg A):zE K A.zd7 ["self","number"] []:=T.zgn.b2 fun _ _ _ _ _ _ _ _=>rfl
theorem Txt.zpT(T:Txt K mg A):zE K A.zfw ["self","number","most"] []:=T.ziM.b3 fun _ _ _ _ _ _ _ _ _=>rfl
theorem Txt.zjX(T:Txt K mg A):zE K A.zij ["self","ratios","scale","rows"] []:=T.zmM.b4 fun _ _ _ _ _ _ _ _ _ _=>rfl
theorem Txt.zc7(T:Txt K mg A):zE K A.zjy ["self","account","row"] []:=T.znS.b3 fun _ _ _ _ _ _ _ _ _=>rfl
theorem Txt.zcz(T:Txt K mg A):zE K A.zgH ["self","a"] []:=T.zkc.b2 fun _ _ _ _ _ _ _ _=>rfl
theorem Txt.zfZ(T:Txt K mg A):zE K A.zhf ["self","a","p"] []:=T.zlt.b3 fun _ _ _ _ _ _ _ _ _=>rfl
theorem Txt.ztp(T:Txt K mg A):zE K A.zhg ["self"] []:=T.zlu.b1 fun _ _ _ _ _ _ _=>rfl
theorem Txt.zrU(T:Txt K mg A):zE K A.zgI ["self","p","weights"] []:=T.zkd.b3 fun _ _ _ _ _ _ _ _ _=>rfl
theorem Txt.ztq(T:Txt K mg A):zE K A.zhi ["self","a","steps"] []:=T.zlv.b3 fun _ _ _ _ _ _ _ _ _=>rfl
theorem Txt.zqX(T:Txt K mg A):zE K A.zkA ["scale","numbers","weights"] []:=T.zhG.b3 fun _ _ _ _ _ _ _ _ _=>rfl
theorem Txt.zh7(T:Txt K mg A):zE K A.zl5 ["ratio"] []:=T.zes.b1 fun _ _ _ _ _ _ _=>rfl
theorem Txt.ztr(T:Txt K mg A):zE K A.zhj ["plan","ratios","has_slopes"] []:=T.zht.b3 fun _ _ _ _ _ _ _ _ _=>rfl
theorem Txt.zkT(T:Txt K mg A):zE K A.zjz ["sheet","p","width"] []:=T.zfd.b3 fun _ _ _ _ _ _ _ _ _=>rfl
theorem Txt.zrV(T:Txt K mg A):zE K A.zpJ ["row","factor"] []:=T.zjO.b2 fun _ _ _ _ _ _ _ _=>rfl
theorem Txt.zqY(T:Txt K mg A):zE K A.zrD ["row","other"] []:=T.zi1.b2 fun _ _ _ _ _ _ _ _=>rfl
theorem Txt.zrW(T:Txt K mg A):zE K A.zpK ["row","other"] []:=T.zjP.b2 fun _ _ _ _ _ _ _ _=>rfl
theorem Txt.zn4(T:Txt K mg A):zE K A.zl6 ["row","p","ratio"] []:=T.zgT.b3 fun _ _ _ _ _ _ _ _ _=>rfl
theorem Txt.zxY(T:Txt K mg A):zE K A.zkC ["row","p","ratio"] []:=T.zkS.b3 fun _ _ _ _ _ _ _ _ _=>rfl
theorem Txt.zeJ(T:Txt K mg A):zE K A.zjA ["sheet","factor"] []:=T.zcL.b2 fun _ _ _ _ _ _ _ _=>rfl
theorem Txt.zB6(T:Txt K mg A):zE K A.zrF ["sheet","rule","ratio"] []:=T.zrP.b3 fun _ _ _ _ _ _ _ _ _=>rfl
theorem Txt.zCh(T:Txt K mg A):zE K A.zuW ["sheet","rule","ratio"] []:=T.zu6.b3 fun _ _ _ _ _ _ _ _ _=>rfl
theorem Txt.zB7(T:Txt K mg A):zE K A.zrG ["sheet","rule","ratio"] []:=T.zrQ.b3 fun _ _ _ _ _ _ _ _ _=>rfl
theorem Txt.zBn(T:Txt K mg A):zE K A.zpL ["sheet","rule","ratio"] []:=T.zpR.b3 fun _ _ _ _ _ _ _ _ _=>rfl
theorem Txt.zB8(T:Txt K mg A):zE K A.zrH ["sheet","rule","ratio"] []:=T.zrR.b3 fun _ _ _ _ _ _ _ _ _=>rfl
theorem Txt.zB9(T:Txt K mg A):zE K A.zrI ["sheet","rule","ratio"] []:=T.zrS.b3 fun _ _ _ _ _ _ _ _ _=>rfl
theorem Txt.zvb(T:Txt K mg A):zE K A.zio ["sheet","rule"] []:=T.ziB.b2 fun _ _ _ _ _ _ _ _=>rfl
theorem Txt.ziE(T:Txt K mg A):zE K A.zhk ["self","plan","ratios","has_slopes"] []:=T.zlw.b4 fun _ _ _ _ _ _ _ _ _ _=>rfl
theorem Txt.zcS(T:Txt K mg A):zE K A.zdI ["self","t"] []:=T.zfO.b2 fun _ _ _ _ _ _ _ _=>rfl
theorem Txt.zrX(T:Txt K mg A):zE K A.zgK ["self"] []:=T.zke.b1 fun _ _ _ _ _ _ _=>rfl
theorem Txt.za7(T:Txt K mg A):zE K A.zgL ["self","t"] []:=T.zkf.b2 fun _ _ _ _ _ _ _ _=>rfl
theorem Txt.zpU(T:Txt K mg A):zE K A.zfx ["sheet"] []:=T.zfF.b1 fun _ _ _ _ _ _ _=>rfl
theorem Txt.zqZ(T:Txt K mg A):zE K A.zf5 ["self","plan"] []:=T.zjQ.b2 fun _ _ _ _ _ _ _ _=>rfl
theorem Txt.zet(T:Txt K mg A):zE K A.zfy ["self","operation","i","j"] []:=T.ziN.b4 fun _ _ _ _ _ _ _ _ _ _=>rfl
theorem Txt.zaO(T:Txt K mg A):zE K A.zdk ["self","account","operation","line"] []:=T.zfe.b4 fun _ _ _ _ _ _ _ _ _ _=>rfl
theorem Txt.zlB(T:Txt K mg A):zE K A.zdJ ["self","rule"] []:=T.zfP.b2 fun _ _ _ _ _ _ _ _=>rfl
theorem Txt.zwh(T:Txt K mg A):zE K A.zjB ["plan","t"] []:=T.zjR.b2 fun _ _ _ _ _ _ _ _=>rfl
theorem Txt.zwi(T:Txt K mg A):zE K A.zjC ["self"] []:=T.znT.b1 fun _ _ _ _ _ _ _=>rfl
theorem Txt.zwj(T:Txt K mg A):zE K A.zjD ["self","accounts","parameters","begins","rules"] []:=T.znU.b5 fun _ _ _ _ _ _ _ _ _ _ _=>rfl
theorem Txt.zoI(T:Txt K mg A):zE K A.ze6 ["self","numbers"] []:=T.zh4.b2 fun _ _ _ _ _ _ _ _=>rfl
theorem Txt.zvc(T:Txt K mg A):zE K A.zir ["self","t"] []:=T.zmN.b2 fun _ _ _ _ _ _ _ _=>rfl
theorem Txt.zxZ(T:Txt K mg A):zE K A.zkH ["self","t"] []:=T.zpg.b2 fun _ _ _ _ _ _ _ _=>rfl
theorem Txt.zwk(T:Txt K mg A):zE K A.zjF ["self","a","t"] []:=T.znV.b3 fun _ _ _ _ _ _ _ _ _=>rfl
theorem Txt.zts(T:Txt K mg A):zE K A.zhn ["self","a","t"] []:=T.zlx.b3 fun _ _ _ _ _ _ _ _ _=>rfl
theorem Txt.zvd(T:Txt K mg A):zE K A.zit ["self","t"] []:=T.zmO.b2 fun _ _ _ _ _ _ _ _=>rfl
theorem Txt.zwl(T:Txt K mg A):zE K A.zjH ["self","t","numbers"] []:=T.znW.b3 fun _ _ _ _ _ _ _ _ _=>rfl
theorem Txt.zrY(T:Txt K mg A):zE K A.zgN ["self","a","p","t"] []:=T.zkg.b4 fun _ _ _ _ _ _ _ _ _ _=>rfl
theorem Txt.zrZ(T:Txt K mg A):zE K A.zgO ["self","a","t","numbers"] []:=T.zkh.b4 fun _ _ _ _ _ _ _ _ _ _=>rfl
theorem Txt.zx0(T:Txt K mg A):zE K A.zkK ["self","a","p","t","numbers"] []:=T.zph.b5 fun _ _ _ _ _ _ _ _ _ _ _=>rfl
theorem Txt.zve(T:Txt K mg A):zE K A.ziu ["self","a","t","numbers"] []:=T.zmP.b4 fun _ _ _ _ _ _ _ _ _ _=>rfl
theorem Txt.zvf(T:Txt K mg A):zE K A.ziv ["self","t"] []:=T.zmQ.b2 fun _ _ _ _ _ _ _ _=>rfl
theorem Txt.zwm(T:Txt K mg A):zE K A.zjK ["self","t"] []:=T.znX.b2 fun _ _ _ _ _ _ _ _=>rfl
theorem Txt.zcr(T:Txt K mg A):zE K A.ze7 ["self","a"] []:=T.zh5.b2 fun _ _ _ _ _ _ _ _=>rfl
theorem Txt.zg5(T:Txt K mg A):zE K A.zer ["self","p"] []:=T.zgU.b2 fun _ _ _ _ _ _ _ _=>rfl
theorem Txt.zoJ(T:Txt K mg A):zE K A.ze8 ["self","p","ratio"] []:=T.zh6.b3 fun _ _ _ _ _ _ _ _ _=>rfl
theorem Txt.zbA(T:Txt K mg A):zE K A.zgP ["self","is_there","is_formed","t"] []:=T.zki.b4 fun _ _ _ _ _ _ _ _ _ _=>rfl
theorem Txt.zcs(T:Txt K mg A):zE K A.zma ["t"] []:=T.zbF.b1 fun _ _ _ _ _ _ _=>rfl
theorem Txt.zff(T:Txt K mg A):zE K A.zrJ ["head","ratios"] []:=T.zdc.b2 fun _ _ _ _ _ _ _ _=>rfl
theorem Txt.ztt(T:Txt K mg A):zE K A.zhr ["self","numbers"] []:=T.zly.b2 fun _ _ _ _ _ _ _ _=>rfl
theorem Txt.zpV(T:Txt K mg A):zE K A.zfC ["self"] []:=T.ziO.b1 fun _ _ _ _ _ _ _=>rfl
theorem Txt.zmS(T:Txt K mg A):zE K A.zhs ["self"] []:=T.zlz.b1 fun _ _ _ _ _ _ _=>rfl
theorem Txt.zh8(T:Txt K mg A):zE K A.zeL ["self","count"] []:=T.zg3.b2 fun _ _ _ _ _ _ _ _=>rfl
theorem Txt.zn5(T:Txt K mg A):zE K A.zeM ["self","count"] []:=T.zg4.b2 fun _ _ _ _ _ _ _ _=>rfl
theorem Txt.zCi(T:Txt K mg A):zE K A.zgQ ["calls"] []:=T.zmo.b1 fun _ _ _ _ _ _ _=>rfl
theorem Txt.zvg(T:Txt K mg A):zE K A.ziy ["book","call","numbers","rows"] []:=T.ziC.b4 fun _ _ _ _ _ _ _ _ _ _=>rfl
end
theorem zCe{K:Fg}{k:Addr}{x0 x1 x2:Int}{oq:Option Addr}{nq:Nat}{sq:Array (Option Value)}{t0 t1 t2:Tok}(q:K.lookup k=some ⟨.type "tuple",oq,.seq #[.int x0 t0,.int x1 t1,.int x2 t2] nq,sq⟩) :∀H,SqT K H k [.int x0,.int x1,.int x2]:=fun H=>.inr ⟨_,_,_,q,rfl,rfl,szl3,(.cons ⟨_,rfl⟩ (.cons ⟨_,rfl⟩ (.cons ⟨_,rfl⟩ .nil)))⟩
theorem zBQ{K:Fg}{k:Addr}{x0 x1 x2 x3 x4 x5:Addr}{oq:Option Addr}{nq:Nat}{sq:Array (Option Value)}(q:K.lookup k=some ⟨.type "tuple",oq,.seq #[.ref x0,.ref x1,.ref x2,.ref x3,.ref x4,.ref x5] nq,sq⟩) :∀H,SqT K H k [.ref x0,.ref x1,.ref x2,.ref x3,.ref x4,.ref x5]:=fun H=>.inr ⟨_,_,_,q,rfl,rfl,szl6,(.cons rfl (.cons rfl (.cons rfl (.cons rfl (.cons rfl (.cons rfl .nil))))))⟩
theorem zCf{K:Fg}{k:Addr}{x0 x1:Int}{oq:Option Addr}{nq:Nat}{sq:Array (Option Value)}{t0 t1:Tok}(q:K.lookup k=some ⟨.type "tuple",oq,.seq #[.int x0 t0,.int x1 t1] nq,sq⟩) :∀H,SqT K H k [.int x0,.int x1]:=fun H=>.inr ⟨_,_,_,q,rfl,rfl,szl2,(.cons ⟨_,rfl⟩ (.cons ⟨_,rfl⟩ .nil))⟩
theorem zvN{K:Fg}{k x0 x1 x2 x3 x4 x5 x6 x7 x8 x9 x10 x11 x12 x13:Addr}{t0 t1 t2 t3 t4 t5 t6 t7 t8 t9 t10 t11 t12 t13:Tok}{ep:Nat}(q:K.lookup k=some ⟨.type "dict",none,.dict #[⟨0,.int 0 t0,.ref x0⟩,⟨1,.int 1 t1,.ref x1⟩,⟨2,.int 2 t2,.ref x2⟩,⟨3,.int 3 t3,.ref x3⟩,⟨4,.int 4 t4,.ref x4⟩,⟨5,.int 5 t5,.ref x5⟩,⟨6,.int 6 t6,.ref x6⟩,⟨7,.int 7 t7,.ref x7⟩,⟨8,.int 8 t8,.ref x8⟩,⟨9,.int 9 t9,.ref x9⟩,⟨10,.int 10 t10,.ref x10⟩,⟨11,.int 11 t11,.ref x11⟩,⟨12,.int 12 t12,.ref x12⟩,⟨13,.int 13 t13,.ref x13⟩] ep,#[]⟩):MDict K k [(0,.ref x0),(1,.ref x1),(2,.ref x2),(3,.ref x3),(4,.ref x4),(5,.ref x5),(6,.ref x6),(7,.ref x7),(8,.ref x8),(9,.ref x9),(10,.ref x10),(11,.ref x11),(12,.ref x12),(13,.ref x13)]:=⟨_,_,q,(.cons ⟨_,rfl,rfl,rfl⟩ (.cons ⟨_,rfl,rfl,rfl⟩ (.cons ⟨_,rfl,rfl,rfl⟩ (.cons ⟨_,rfl,rfl,rfl⟩ (.cons ⟨_,rfl,rfl,rfl⟩ (.cons ⟨_,rfl,rfl,rfl⟩ (.cons ⟨_,rfl,rfl,rfl⟩ (.cons ⟨_,rfl,rfl,rfl⟩ (.cons ⟨_,rfl,rfl,rfl⟩ (.cons ⟨_,rfl,rfl,rfl⟩ (.cons ⟨_,rfl,rfl,rfl⟩ (.cons ⟨_,rfl,rfl,rfl⟩ (.cons ⟨_,rfl,rfl,rfl⟩ (.cons ⟨_,rfl,rfl,rfl⟩ .nil)))))))))))))),(by show([0,1,2,3,4,5,6,7,8,9,10,11,12,13]:List Int).Nodup;decide)⟩
theorem zBR{K:Fg}{h:Heap}{mg:Str->Option Value}(X:K.In h)(G:h.Ns mainGlobals mg){x:Str}{i:Int}{t:Tok}(c:PySem.W.nsIn K mainGlobals x=some (some (.int i t))) :∃t,mg x=some (.int i t):=⟨_,PySem.W.mg_of X G c⟩
theorem zAW{K:Fg}{C f:Addr}{m:Str}(a:PySem.W.findIn K (.ref C) m=some (some (.ref f)))(i:PySem.W.isFn K (.ref f)=true)(k:PySem.W.keepIn K (.ref f)=true):zbg K C m f:=⟨a,i,k⟩
theorem zAX{K:Fg}{C f:Addr}(m:PySem.W.makesIn K C=true)(a:PySem.W.findIn K (.ref C) "__init__" = some (some (.ref f))) (i:PySem.W.isFn K (.ref f)=true) (k:PySem.W.keepIn K (.ref C)=true):Mk K C f:=⟨m,a,i,k⟩
end My
namespace My
open PySem PySem.Spec PyProof.Rows L2 Pr
open Builtin.Int (intBits)
section
variable {P:Program}{w:World}{K:Fg}{mg:Str->Option Value}{base:Heap}{A:Ad}
def gcdS(a b:Int):Int:=if b<0 then -((Int.gcd a b:Nat):Int)else((Int.gcd a b:Nat):Int)
theorem zyV{x y:Int}(hy:y≠0):(x.fmod y).natAbs<y.natAbs/\(0<y->0<=x.fmod y)/\(y<0->x.fmod y<=0)/\Int.gcd y (x.fmod y)=Int.gcd x y:=by
 have h1:=Int.emod_nonneg x hy
 have h2:x%y<(y.natAbs:Int):=Int.emod_lt x hy
 refine⟨?_,fun h=>?_,fun h=>?_,?_⟩
 ·rw[Int.fmod_eq_emod]
  split
  ·omega
  ·next q=>
   have:x%y≠0:=fun e=>q (.inr (Int.dvd_of_emod_eq_zero e))
   omega
 ·rw[Int.fmod_eq_emod,if_pos (.inl (by omega))]
  omega
 ·rw[Int.fmod_eq_emod]
  split
  ·next q=>
   rcases q with q|q
   ·omega
   ·have:=Int.emod_eq_zero_of_dvd q
    omega
  ·omega
 ·rw[Int.fmod_def,Int.gcd_comm x y]
  exact Int.gcd_sub_mul_left_right y x (x.fdiv y)
inductive zov(vs:List V)(H:Hp)(Q:VK)(E:XK):Prop|I:∀(a b:Int),vs=[.int a,.int b]->b≠0->Q (.int (gcdS a b)) H->zov vs H Q E
theorem zfs(T:Txt K mg A):zH P w K mg base CX0 41 A.zf2 A.zft ["first","second"] zov:=by
 refine T.zcZ.ok zdL (fun _ _ _ _ h=>?_) fun _ _ _ s H vs Q E hr h=>?_
 ·obtain⟨a,b,rfl,_⟩:=h
  rfl
 ·obtain⟨a,b,rfl,hb,k⟩:=h
  refine zQa (zlG PassesOwn.never (zaG (pv 1) (fun _=>rfl)) (ze (qD 2 zdL.nd (zW zAl (pv 0) (pv 1)))
   (ze (qD 0 zdL.nd (pv 1))
   (zh (qD 1 zdL.nd (pv 2)))))) (zQl (zh (zo (pv 0))) ?_);intros
  refine⟨fun m σ H'=>H'=H/\∃(x y:Int) (r:Option V),σ = [some (.int x),some (.int y),r]/\(0<b->0<=y)/\(b<0->y<=0)/\m=y.natAbs/\Int.gcd x y=Int.gcd a b/\(y=0->(0<b->0<x)/\(b<0->x<0)),⟨b.natAbs,rfl,a,b,none,rfl,by omega,by omega,rfl,rfl,by omega⟩,?_⟩
  rintro m σ H' ⟨eH,x,y,r,rfl,hy1,hy2,rfl,hg,h0⟩
  subst eH
  refine⟨_,rfl,_,rfl,?_⟩
  by_cases e:y=0
  ·subst e
   refine zaT ?_
   refine⟨_,rfl,?_⟩
   have e2:gcdS a b=x:=by
    unfold gcdS
    rw[<-hg,Int.gcd_zero]
    have:=h0 rfl
    split<;>omega
   rw[e2]at k
   exact k
  ·have e2:(y != 0)=true:=by simpa using e
   rw[e2]
   refine zaY ⟨fun σ1 H1=>∃m':Nat,m'<y.natAbs/\(H1=H'/\∃(x y:Int) (r:Option V),σ1=[some (.int x),some (.int y),r]/\(0<b->0<=y)/\(b<0->y<=0)/\m'=y.natAbs/\Int.gcd x y=Int.gcd a b/\(y=0->(0<b->0<x)/\(b<0->x<0))),fun σ1 H1 q=>q,?_⟩
   obtain⟨t1,t2,t3,t4⟩:=zyV (x:=x) e
   exact⟨_,rfl,_,rfl,x,y,rfl,rfl,e,_,rfl,_,rfl,(x.fmod y).natAbs,t1,rfl,y,x.fmod y,_,rfl,fun q=>t2 (by have:=hy1 q;omega),fun q=>t3 (by have:=hy2 q;omega),rfl,by rw[t4];exact hg,fun _=>⟨fun q=>by have:=hy1 q;omega,fun q=>by have:=hy2 q;omega⟩⟩
theorem zoj(x:Int):intBits x=bI x:=by
 unfold Builtin.Int.intBits bI Vagraa.bits
 by_cases h:x=0
 ·subst h;rfl
 ·have h1:(x==0)=false:=by simpa using h
  have h2:¬x.natAbs=0:=by omega
  rw[h1,if_neg h2]
  rfl
structure Bs(P:Program)(base:Heap):Prop where
 tree:P.given.tree=none
 seer:base.NoSeer
theorem znu{st:Stmt}{N ps:List Str}(S:zx N ps (zm st)){qual:Str}{f:Addr}{cdv:Value}{A':Around}{outer:List Env}{s:Shared}{H:Hp}{E:XK}{k:Nat}(B:Bs P base)
  (hr:zcj k (A'.deeper (envOfC qual (zm st) s.heap.objs.size f cdv))) (hk:32<=k):Big (cxOf CX0 P w K mg base N qual (zm st) f cdv A' outer s H E).nox:=
 ⟨B.seer,B.tree,rfl,S.gen,S.co,by
  have h1:=hr.dp
  have h2:Builtin.pylongFrames=100:=rfl
  show(A'.deeper (envOfC qual (zm st) s.heap.objs.size f cdv)).depth+Builtin.pylongFrames<recursionLimit
  omega⟩
def qT(q:Rat):HO:=.tup [.int q.num,.int (q.den:Int)]
theorem zrm{n d:Int}(hd:d≠0):gcdS n d≠0:=by
 have:=Int.gcd_pos_of_ne_zero_right n hd
 unfold gcdS
 split<;>omega
theorem zwZ{a g m:Int}(hg:g≠0)(e:a=g*m):a.fdiv g=m:=by subst e;exact Int.mul_fdiv_cancel_left m hg
theorem zup{n d:Int}(hd:d≠0):n.fdiv (gcdS n d)=(zn d n).num/\d.fdiv (gcdS n d)=((zn d n).den:Int):=by
 have hg:=zrm (n:=n) hd
 obtain⟨x,hx⟩:=Int.gcd_dvd_left n d
 obtain⟨y,hy⟩:=Int.gcd_dvd_right n d
 have hgp:0<Int.gcd n d:=Int.gcd_pos_of_ne_zero_right n hd
 by_cases h:d<0
 ·have eS:gcdS n d = -((Int.gcd n d:Nat):Int):=if_pos h
  rw[zwZ (m:=-x) hg (by rw[eS,Int.neg_mul_neg];exact hx),zwZ (m:=-y) hg (by rw[eS,Int.neg_mul_neg];exact hy)]
  have eq:zn d n=zn (-d) (-n):=(zsw d n).symm
  have n1:=zlS (n:=-n) (show 0 < -d by omega)
  have d1:=zlT (n:=-n) (show 0 < -d by omega)
  have eg:Int.gcd (-n) (-d)=Int.gcd n d:=by rw[Int.gcd_neg,Int.neg_gcd]
  rw[eq,<-n1,<-d1,eg]
  constructor
  ·conv=>rhs;lhs;rw[hx]
   rw[<-Int.mul_neg,Int.mul_ediv_cancel_left _ (by omega)]
  ·conv=>rhs;lhs;rw[hy]
   rw[<-Int.mul_neg,Int.mul_ediv_cancel_left _ (by omega)]
 ·have eS:gcdS n d=((Int.gcd n d:Nat):Int):=if_neg h
  rw[eS,Int.fdiv_eq_ediv_of_nonneg n (by omega),Int.fdiv_eq_ediv_of_nonneg d (by omega)]
  exact⟨zlS (by omega),zlT (by omega)⟩
inductive zyW(vs:List V)(H:Hp)(Q:VK)(E:XK):Prop|I:∀(n d:Int),vs=[.int n,.int d]->d≠0->(∀p,H p=none->Q (.ref p) (upd H p (qT (zn d n))))->zyW vs H Q E
theorem zhY(B:Bs P base)(T:Txt K mg A):zH P w K mg base CX0 42 A.zpG A.znF ["numerator","denominator"] zyW:=by
 have zdl:=@zfs P w K mg base A T
 refine T.zfc.ok znk (fun vs H Q E h=>?_) (fun cdv A' outer s H vs Q E hr h=>?_)
 ·obtain⟨a,b,rfl,_⟩:=h
  rfl
 ·obtain⟨n,d,rfl,hd,k⟩:=h
  have B:=znu (w:=w) (K:=K) (mg:=mg) (outer:=outer) (H:=H) (E:=E) znk B hr (by decide)
  refine zQa (qD 2 znk.nd (zw zdl hr rfl T.zfE T.zcZ.kp T.zf9 .nil zj (za (pv 0) (za (pv 1) zc)))) (zQl (zh (zo (zmZ (za (zW (ztZ B) (pv 0) (pv 2)) (za (zW (ztZ B) (pv 1) (pv 2)) zc))))) ?_);intros
  refine⟨_,rfl,_,rfl,n,d,rfl,hd,?_⟩
  refine⟨_,rfl,_,rfl,_,_,rfl,rfl,zrm hd,_,rfl,_,rfl,_,_,rfl,rfl,zrm hd,szl2,fun p hp=>?_⟩
  dsimp only
  rw[(zup hd).1,(zup hd).2]
  exact k p hp
inductive zyX(K:Fg)(vs:List V)(H:Hp)(Q:VK)(E:XK):Prop|I:∀(p:Addr) (n d:Int),vs=[.ref p]->SqT K H p [.int n,.int d]->Q (.int ((bI n+bI d:Nat):Int)) H->zyX K vs H Q E
theorem znv(T:Txt K mg A):zH P w K mg base CX0 41 A.zpH A.znG ["ratio"] (zyX K):=by
 refine T.zgm.ok zyN (fun _ _ _ _ h=>?_) fun _ _ _ s H vs Q E hr h=>?_
 ·obtain⟨p,n,d,rfl,_⟩:=h
  rfl
 ·obtain⟨p,n,d,rfl,hp,k⟩:=h
  refine⟨_,(zh (zo (zW zb7 (zyk PySem.F.plainAttrs_int PySem.F.slot_int_bit_length PySem.F.type_int_bit_length zwJ (zu z6 (pv 0) zi (fun _ _=>rfl))) (zyk PySem.F.plainAttrs_int PySem.F.slot_int_bit_length PySem.F.type_int_bit_length zwJ (zu z6 (pv 0) zi (fun _ _=>rfl)))))),?_⟩
  refine⟨_,rfl,p,_,_,_,rfl,rfl,hp,rfl,rfl,n,rfl,rfl,_,rfl,p,_,_,_,rfl,rfl,hp,rfl,rfl,d,rfl,rfl,_,_,rfl,rfl,?_⟩
  dsimp only
  rw[zoj,zoj,<-Int.natCast_add]
  exact k
theorem zl{H:Hp}{p:Addr}{o:HO}(h:H p=none):zq H (upd H p o):=fun b u e=>by rw[zf (zk e h)];exact e
theorem zeS(q:Rat):Sp.wt q=bI q.num+bI (q.den:Int):=by
 show Vagraa.bits q.num.natAbs+Vagraa.bits q.den=_
 unfold bI
 rw[Int.natAbs_natCast]
theorem zcU{x y:Int}(hx:bI x<=60000000)(hy:bI y<=60000000):CMulB x y:=by
 show intBits x+intBits y<=134217728
 rw[zoj,zoj]
 omega
inductive zxx(K:Fg)(vs:List V)(H:Hp)(Q:VK)(E:XK):Prop|I:∀(p:Addr) (n d:Int),vs=[.ref p]->SqT K H p [.int n,.int d]->Q (.int (rsv n)) H->zxx K vs H Q E
theorem zgB(T:Txt K mg A):zH P w K mg base CX0 41 A.znI A.zl5 ["ratio"] (zxx K):=by
 refine T.zes.ok zxv (fun _ _ _ _ h=>?_) fun _ _ _ s H vs Q E hr h=>?_
 ·obtain⟨p,n,d,rfl,_⟩:=h
  rfl
 ·obtain⟨p,n,d,rfl,hp,k⟩:=h
  refine⟨_,(zh (zo (zaN (zyd rfl) (by rfl) T.zB4 boot_max (za zi (za (zaN ztH (by rfl) T.zza boot_abs (za (zu z6 (pv 0) zi (fun _ _=>rfl)) zc)) zc))))),?_⟩
  exact⟨_,rfl,p,_,_,_,rfl,rfl,hp,rfl,n,rfl,_,_,rfl,k⟩
inductive zlf(K:Fg)(C:Int->Prop)(f:Rat->Rat->Rat)(vs:List V)(H:Hp)(Q:VK)(E:XK):Prop|I:∀(p q:Addr) (n d m e:Int),vs=[.ref p,.ref q]->SqT K H p [.int n,.int d]->SqT K H q [.int m,.int e]->0<d->0<e->C m->bI n<=30000000->bI d<=30000000->bI m<=30000000->bI e<=30000000->(∀r,H r=none->Q (.ref r) (upd H r (qT (f (zn d n) (zn e m)))))->zlf K C f vs H Q E
theorem zzL(B:Bs P base)(T:Txt K mg A):zH P w K mg base CX0 43 A.zrA A.zpI ["ratio","other"] (zlf K (fun m=>True) fun x y=>x+y):=by
 have zeu:=zhY (w:=w) B T
 refine T.zpQ.ok zzK (fun _ _ _ _ h=>?_) fun _ _ _ s H vs Q E hr h=>?_
 ·obtain⟨p,q,n,d,m,e,rfl,_⟩:=h
  rfl
 ·obtain⟨p,q,n,d,m,e,rfl,hp,hq,hd,he,hC,z1,z2,z3,z4,k⟩:=h
  refine⟨_,(zh (zo (zw zeu hr rfl T.zh2 T.zfc.kp T.zjW .nil zj (za (zW zb7 (zW za2 (zu z6 (pv 0) zi (fun _ _=>rfl)) (zu z6 (pv 1) zi (fun _ _=>rfl))) (zW za2 (zu z6 (pv 1) zi (fun _ _=>rfl)) (zu z6 (pv 0) zi (fun _ _=>rfl)))) (za (zW za2 (zu z6 (pv 0) zi (fun _ _=>rfl)) (zu z6 (pv 1) zi (fun _ _=>rfl))) zc))))),?_⟩
  refine⟨_,rfl,p,_,_,_,rfl,rfl,hp,rfl,_,rfl,q,_,_,_,rfl,rfl,hq,rfl,_,_,rfl,rfl,zcU (by omega) (by omega),_,rfl,q,_,_,_,rfl,rfl,hq,rfl,_,rfl,p,_,_,_,rfl,rfl,hp,rfl,_,_,rfl,rfl,zcU (by omega) (by omega),_,_,rfl,rfl,_,rfl,p,_,_,_,rfl,rfl,hp,rfl,_,rfl,q,_,_,_,rfl,rfl,hq,rfl,_,_,rfl,rfl,zcU (by omega) (by omega),_,_,rfl,?_,fun r hr'=>?_⟩
  ·exact Int.ne_of_gt (Int.mul_pos hd he)
  dsimp only
  rw[zyK hd he]
  exact k r hr'
theorem zw0(B:Bs P base)(T:Txt K mg A):zH P w K mg base CX0 43 A.zuU A.zrB ["ratio","other"] (zlf K (fun m=>True) fun x y=>x-y):=by
 have zeu:=zhY (w:=w) B T
 refine T.zls.ok zAV (fun _ _ _ _ h=>?_) fun _ _ _ s H vs Q E hr h=>?_
 ·obtain⟨p,q,n,d,m,e,rfl,_⟩:=h
  rfl
 ·obtain⟨p,q,n,d,m,e,rfl,hp,hq,hd,he,hC,z1,z2,z3,z4,k⟩:=h
  refine⟨_,(zh (zo (zw zeu hr rfl T.zh2 T.zfc.kp T.zjW .nil zj (za (zW zp1 (zW za2 (zu z6 (pv 0) zi (fun _ _=>rfl)) (zu z6 (pv 1) zi (fun _ _=>rfl))) (zW za2 (zu z6 (pv 1) zi (fun _ _=>rfl)) (zu z6 (pv 0) zi (fun _ _=>rfl)))) (za (zW za2 (zu z6 (pv 0) zi (fun _ _=>rfl)) (zu z6 (pv 1) zi (fun _ _=>rfl))) zc))))),?_⟩
  refine⟨_,rfl,p,_,_,_,rfl,rfl,hp,rfl,_,rfl,q,_,_,_,rfl,rfl,hq,rfl,_,_,rfl,rfl,zcU (by omega) (by omega),_,rfl,q,_,_,_,rfl,rfl,hq,rfl,_,rfl,p,_,_,_,rfl,rfl,hp,rfl,_,_,rfl,rfl,zcU (by omega) (by omega),_,_,rfl,rfl,_,rfl,p,_,_,_,rfl,rfl,hp,rfl,_,rfl,q,_,_,_,rfl,rfl,hq,rfl,_,_,rfl,rfl,zcU (by omega) (by omega),_,_,rfl,?_,fun r hr'=>?_⟩
  ·exact Int.ne_of_gt (Int.mul_pos hd he)
  dsimp only
  rw[zsu hd he]
  exact k r hr'
theorem zsZ(B:Bs P base)(T:Txt K mg A):zH P w K mg base CX0 43 A.zjv A.zig ["ratio","other"] (zlf K (fun m=>True) fun x y=>x*y):=by
 have zeu:=zhY (w:=w) B T
 refine T.ziA.ok zsV (fun _ _ _ _ h=>?_) fun _ _ _ s H vs Q E hr h=>?_
 ·obtain⟨p,q,n,d,m,e,rfl,_⟩:=h
  rfl
 ·obtain⟨p,q,n,d,m,e,rfl,hp,hq,hd,he,hC,z1,z2,z3,z4,k⟩:=h
  refine⟨_,(zh (zo (zw zeu hr rfl T.zh2 T.zfc.kp T.zjW .nil zj (za (zW za2 (zu z6 (pv 0) zi (fun _ _=>rfl)) (zu z6 (pv 1) zi (fun _ _=>rfl))) (za (zW za2 (zu z6 (pv 0) zi (fun _ _=>rfl)) (zu z6 (pv 1) zi (fun _ _=>rfl))) zc))))),?_⟩
  refine⟨_,rfl,p,_,_,_,rfl,rfl,hp,rfl,_,rfl,q,_,_,_,rfl,rfl,hq,rfl,_,_,rfl,rfl,zcU (by omega) (by omega),_,rfl,p,_,_,_,rfl,rfl,hp,rfl,_,rfl,q,_,_,_,rfl,rfl,hq,rfl,_,_,rfl,rfl,zcU (by omega) (by omega),_,_,rfl,?_,fun r hr'=>?_⟩
  ·exact Int.ne_of_gt (Int.mul_pos hd he)
  dsimp only
  rw[zst hd he]
  exact k r hr'
theorem zqB(B:Bs P base)(T:Txt K mg A):zH P w K mg base CX0 43 A.znH A.zl2 ["ratio","other"] (zlf K (fun m=>m≠0) fun x y=>x/y):=by
 have zeu:=zhY (w:=w) B T
 refine T.ziU.ok zxu (fun _ _ _ _ h=>?_) fun _ _ _ s H vs Q E hr h=>?_
 ·obtain⟨p,q,n,d,m,e,rfl,_⟩:=h
  rfl
 ·obtain⟨p,q,n,d,m,e,rfl,hp,hq,hd,he,hC,z1,z2,z3,z4,k⟩:=h
  refine⟨_,(zh (zo (zw zeu hr rfl T.zh2 T.zfc.kp T.zjW .nil zj (za (zW za2 (zu z6 (pv 0) zi (fun _ _=>rfl)) (zu z6 (pv 1) zi (fun _ _=>rfl))) (za (zW za2 (zu z6 (pv 0) zi (fun _ _=>rfl)) (zu z6 (pv 1) zi (fun _ _=>rfl))) zc))))),?_⟩
  refine⟨_,rfl,p,_,_,_,rfl,rfl,hp,rfl,_,rfl,q,_,_,_,rfl,rfl,hq,rfl,_,_,rfl,rfl,zcU (by omega) (by omega),_,rfl,p,_,_,_,rfl,rfl,hp,rfl,_,rfl,q,_,_,_,rfl,rfl,hq,rfl,_,_,rfl,rfl,zcU (by omega) (by omega),_,_,rfl,?_,fun r hr'=>?_⟩
  ·exact Int.mul_ne_zero (by omega) hC
  dsimp only
  rw[zsv hd he n hC]
  exact k r hr'
inductive zvO(K:Fg)(vs:List V)(H:Hp)(Q:VK)(E:XK):Prop|I:∀(p q:Addr) (n d m e:Int),vs=[.ref p,.ref q]->SqT K H p [.int n,.int d]->SqT K H q [.int m,.int e]->0<d->0<e->bI n<=30000000->bI d<=30000000->bI m<=30000000->bI e<=30000000->Q (.bl (decide (zn d n<zn e m))) H->zvO K vs H Q E
theorem zvP(T:Txt K mg A):zH P w K mg base CX0 41 A.zl3 A.zky ["ratio","other"] (zvO K):=by
 refine T.zkR.ok zvM (fun _ _ _ _ h=>?_) fun _ _ _ s H vs Q E hr h=>?_
 ·obtain⟨p,q,n,d,m,e,rfl,_⟩:=h
  rfl
 ·obtain⟨p,q,n,d,m,e,rfl,hp,hq,hd,he,z1,z2,z3,z4,k⟩:=h
  refine⟨_,(zh (zo (zq2 zgq (zW za2 (zu z6 (pv 0) zi (fun _ _=>rfl)) (zu z6 (pv 1) zi (fun _ _=>rfl))) (zW za2 (zu z6 (pv 1) zi (fun _ _=>rfl)) (zu z6 (pv 0) zi (fun _ _=>rfl))) (nomark _)))),?_⟩
  refine⟨_,rfl,p,_,_,_,rfl,rfl,hp,rfl,_,rfl,q,_,_,_,rfl,rfl,hq,rfl,_,_,rfl,rfl,zcU (by omega) (by omega),_,rfl,q,_,_,_,rfl,rfl,hq,rfl,_,rfl,p,_,_,_,rfl,rfl,hp,rfl,_,_,rfl,rfl,zcU (by omega) (by omega),_,_,rfl,rfl,?_⟩
  dsimp only
  have e1:decide (n*e<m*d)=decide (zn d n<zn e m):=by
   rw[decide_eq_decide,zzJ hd he]
  rw[e1]
  exact k
theorem zuq{a b:Int}(h:0<b):gcdS a b=((Int.gcd a b:Nat):Int):=if_neg (by omega)
inductive znw(vs:List V)(H:Hp)(Q:VK)(E:XK):Prop|I:∀(a b:Int),vs=[.int a,.int b]->0<a->0<b->bI a+bI b<=100000000->Q (.int (zdo a b)) H->znw vs H Q E
theorem znx(B:Bs P base)(T:Txt K mg A):zH P w K mg base CX0 42 A.zfu A.ze4 ["first","second"] znw:=by
 have zdl:=@zfs P w K mg base A T
 refine T.zfb.ok zhS (fun vs H Q E h=>?_) (fun cdv A' outer s H vs Q E hr h=>?_)
 ·obtain⟨a,b,rfl,_⟩:=h
  rfl
 ·obtain⟨a,b,rfl,ha,hb,hz,k⟩:=h
  have B:=znu (w:=w) (K:=K) (mg:=mg) (outer:=outer) (H:=H) (E:=E) zhS B hr (by decide)
  refine⟨_,(zh (zo (zW za2 (zW (zlN B) (pv 0) (zw zdl hr rfl T.zfE T.zcZ.kp T.zf9 .nil zj (za (pv 0) (za (pv 1) zc)))) (pv 1)))),?_⟩
  have eg:gcdS a b=((Int.gcd a b:Nat):Int):=zuq hb
  refine⟨_,rfl,_,rfl,_,rfl,a,b,rfl,by omega,?_⟩
  rw[eg]
  refine⟨_,_,rfl,rfl,ziZ hb,_,rfl,_,_,rfl,rfl,?_,k⟩
  show intBits (a/((Int.gcd a b:Nat):Int))+intBits b<=134217728
  rw[zoj,zoj]
  have:=zk6 (x:=a) (ziZ (n:=a) hb) (Int.gcd_dvd_left a b)
  omega
def zam(H:Hp)(as:List Addr)(qs:List Rat):Prop:=Paired (fun a q=>H a=some (qT q)) as qs
theorem zam.same{H H':Hp}(s:zq H H') :∀{as:List Addr} {qs:List Rat},zam H as qs->zam H' as qs
 | _,_,.nil=>.nil
 | _,_,.cons h t=>.cons (s _ _ h) (zam.same s t)
theorem zam.snoc{H:Hp}{a:Addr}{q:Rat}(h:H a=some (qT q)) :∀{as:List Addr} {qs:List Rat},zam H as qs->zam H (as++[a]) (qs++[q])
 | _,_,.nil=>.cons h .nil
 | _,_,.cons g t=>.cons g (zam.snoc h t)
theorem zam.upd_lst{H:Hp}{l:Addr}{xs:List V}{o:HO}(h:H l=some (.lst xs)) :∀{as:List Addr} {qs:List Rat},zam H as qs->zam (upd H l o) as qs
 | _,_,.nil=>.nil
 | _,_,.cons g t=>.cons (by rw[zf (zI g h (by intro z;cases z))];exact g) (zam.upd_lst h t)
theorem zam.length{H:Hp} :∀{as:List Addr} {qs:List Rat},zam H as qs->as.length=qs.length
 | _,_,.nil=>rfl
 | _,_,.cons _ t=>by rw[List.length_cons,List.length_cons,zam.length t]
def zct(H:Hp)(as:List Addr)(ps:List (Int×Int)):Prop:=Paired (fun a p=>H a=some (.tup [.int p.1,.int p.2])) as ps
def ndQ(q:Rat):Int×Int:=(q.num,(q.den:Int))
theorem zam.pr{H:Hp} :∀{as:List Addr} {qs:List Rat},zam H as qs->zct H as (qs.map ndQ)
 | _,_,.nil=>.nil
 | _,_,.cons h t=>.cons h (zam.pr t)
theorem zct.same{H H':Hp}(s:zq H H') :∀{as:List Addr} {qs:List (Int×Int)},zct H as qs->zct H' as qs
 | _,_,.nil=>.nil
 | _,_,.cons h t=>.cons (s _ _ h) (zct.same s t)
theorem zct.snoc{H:Hp}{a:Addr}{q:Int×Int}(h:H a=some (.tup [.int q.1,.int q.2])) :∀{as:List Addr} {qs:List (Int×Int)},zct H as qs->zct H (as++[a]) (qs++[q])
 | _,_,.nil=>.cons h .nil
 | _,_,.cons g t=>.cons g (zct.snoc h t)
theorem zct.upd_lst{H:Hp}{l:Addr}{xs:List V}{o:HO}(h:H l=some (.lst xs)) :∀{as:List Addr} {qs:List (Int×Int)},zct H as qs->zct (upd H l o) as qs
 | _,_,.nil=>.nil
 | _,_,.cons g t=>.cons (by rw[zf (zI g h (by intro z;cases z))];exact g) (zct.upd_lst h t)
theorem zct.length{H:Hp} :∀{as:List Addr} {qs:List (Int×Int)},zct H as qs->as.length=qs.length
 | _,_,.nil=>rfl
 | _,_,.cons _ t=>by rw[List.length_cons,List.length_cons,zct.length t]
theorem zct.get{H:Hp} :∀{as:List Addr} {qs:List (Int×Int)} {i:Nat} {a:Addr},zct H as qs->as[i]? = some a->∃q,qs[i]? = some q/\H a=some (.tup [.int q.1,.int q.2])
 | _,_,_,_,.nil,e=>by simp at e
 | _,_,0,_,.cons g _,e=>by simp at e;subst e;exact⟨_,rfl,g⟩
 | _,_,i+1,_,.cons _ t,e=>by
  obtain⟨q,h1,h2⟩:=zct.get (i:=i) t (by simpa using e)
  exact⟨q,by simpa using h1,h2⟩
theorem ze0{as:List Addr}{i:Nat}{x:V}(hx:(as.map V.ref)[i]? = some x) :∃z,as[i]? = some z/\x=V.ref z:=by
 rw[gEm]at hx
 cases e2:as[i]? with
 | none=>rw[e2]at hx;cases hx
 | some z=>rw[e2]at hx;exact⟨z,rfl,(oSi hx).symm⟩
def zbo(ps:List (Int×Int)):Int:=ps.foldl (fun S p=>zdo S p.2) 1
theorem zyY(qs:List Rat):zbo (qs.map ndQ)=zaq qs:=by
 unfold zbo zaq
 rw[List.foldl_map]
 rfl
theorem zlW :∀(l:List (Int×Int)) (S:Int),0<S->(∀p,p∈l->0<p.2)->0<l.foldl (fun S p=>zdo S p.2) S/\S∣l.foldl (fun S p=>zdo S p.2) S/\∀p,p∈l->p.2∣l.foldl (fun S p=>zdo S p.2) S
 | [],S,h,_=>⟨h,Int.dvd_refl S,fun q hq=>by cases hq⟩
 | x::l,S,h,hp=>by
  obtain⟨h1,h2,h3⟩:=zog h (hp x lMs)
  obtain⟨g1,g2,g3⟩:=zlW l _ h1 fun p hm=>hp p (lMc _ hm)
  refine⟨g1,Int.dvd_trans h2 g2,fun q hq=>?_⟩
  rcases List.mem_cons.mp hq with e|hq
  ·rw[e];exact Int.dvd_trans h3 g2
  ·exact g3 q hq
theorem zhD{w:Nat} :∀(l:List (Int×Int)) (S:Int) (b:Nat),0<S->bI S<=b->(∀p,p∈l->0<p.2/\bI p.2<=w)->bI (l.foldl (fun S p=>zdo S p.2) S)<=b+l.length*w
 | [],S,b,_,h,_=>by simpa using h
 | x::l,S,b,hS,h,hw=>by
  obtain⟨hx,h2⟩:=hw x lMs
  have h1:=zyI hS hx
  have:=zhD (w:=w) l (zdo S x.2) (b+w) (zog hS hx).1 (by omega) fun q hq=>hw q (lMc _ hq)
  show bI (l.foldl _ (zdo S x.2))<=b+(l.length+1)*w
  rw[Nat.succ_mul]
  omega
inductive zlg(K:Fg)(vs:List V)(H:Hp)(Q:VK)(E:XK):Prop|I:∀(l:Addr) (as:List Addr) (ps:List (Int×Int)),vs=[.ref l]->SqL K H l (as.map V.ref)->zct H as ps->ps.length<=50->(∀p,p∈ps->0<p.2/\bI p.2<=900000)->Q (.int (zbo ps)) H->zlg K vs H Q E
theorem zgg(B:Bs P base)(T:Txt K mg A):zH P w K mg base CX0 43 A.zep A.zd6 ["ratios"] (zlg K):=by
 have zoK:=znx (w:=w) B T
 refine T.zcR.ok zcN (fun _ _ _ _ h=>?_) fun _ _ _ s H vs Q E hr h=>?_
 ·obtain⟨l,as,ps,rfl,_⟩:=h
  rfl
 ·obtain⟨l,as,ps,rfl,hl,hps,hz,hp,k⟩:=h
  refine zQa (qD 1 zcN.nd zi) (zQc (zde PassesOwn.never rfl (zdP (pv 0)) (zag (i:=2) zcN.nd rfl (Or.inl rfl)) (zh (qD 1 zcN.nd (zw zoK hr rfl T.znM T.zfb.kp T.zoH .nil zj (za (pv 1) (za (zu z6 (pv 2) zi (fun _ _=>rfl)) zc)))))) (zQl (zh (zo (pv 1))) ?_));intros
  have hlen:=hps.length
  refine⟨_,rfl,l,rfl,⟨_,hl⟩,?_⟩
  refine zpn (K:=K) (a:=l) (xs:=as.map V.ref) (fun i σ H'=>H'=H/\∃v,σ = [some (.ref l),some (.int ((ps.take i).foldl (fun S p=>zdo S p.2) 1)),v]) ⟨rfl,none,rfl⟩ (fun i σ H' _ q=>by rw[q.1];exact hl) ?_ ?_
  ·rintro i x σ H' hx ⟨rfl,v,rfl⟩
   obtain⟨z,hz1,rfl⟩:=ze0 hx
   obtain⟨q,hq1,hq2⟩:=hps.get hz1
   have hm:=mge hq1
   have hpt :∀p,p∈ps.take i->0<p.2/\bI p.2<=900000:=fun p h=>hp p (List.mem_of_mem_take h)
   have b1:=zhD (w:=900000) (ps.take i) 1 1 (by decide) (by decide) hpt
   have p1:=(zlW (ps.take i) 1 (by decide) fun p h=>(hpt p h).1).1
   have b2:(ps.take i).length<=50:=by rw[List.length_take];omega
   have b3:(ps.take i).length*900000<=50*900000:=Nat.mul_le_mul_right _ b2
   refine⟨_,rfl,_,rfl,z,_,_,_,rfl,rfl,SqT.of hq2,rfl,_,_,rfl,p1,(hp q hm).1,by have:=(hp q hm).2;omega,rfl,some (.ref z),?_⟩
   rw[Pr.zab hq1,List.foldl_append]
   rfl
  ·rintro σ H' ⟨rfl,v,rfl⟩
   rw[tOl (by rw[lmm];omega)]
   exact⟨_,rfl,k⟩
theorem fits{i:Int}(h1:-1000000<=i)(h2:i<=1000000):Builtin.Range.rangeFitsLong i=true:=by
 unfold Builtin.Range.rangeFitsLong
 rw[bAt,decide_eq_true_eq,decide_eq_true_eq]
 omega
theorem rg2{n:Nat}(h:n<=1000):RgC 0 ((2*n:Nat):Int) 2 n:=by
 have e:Builtin.Range.rangeSize 0 ((2*n:Nat):Int) 2=n:=by
  unfold Builtin.Range.rangeSize
  rw[if_pos (by decide)]
  split<;>omega
 refine⟨by decide,by decide,?_,e⟩
 unfold Builtin.Range.small
 rw[e,fits (i:=0) (by decide) (by decide),fits (i:=((2*n:Nat):Int)) (by omega) (by omega),fits (i:=2) (by decide) (by decide),fits (i:=(n:Int)) (by omega) (by omega),if_pos (by decide),fits (i:=((2*n:Nat):Int)+(2-1)) (by omega) (by omega),Bool.or_true]
 rfl
theorem rg4{n:Nat}(h:n<=1000):RgC 0 ((4*n:Nat):Int) 4 n:=by
 have e:Builtin.Range.rangeSize 0 ((4*n:Nat):Int) 4=n:=by
  unfold Builtin.Range.rangeSize
  rw[if_pos (by decide)]
  split<;>omega
 refine⟨by decide,by decide,?_,e⟩
 unfold Builtin.Range.small
 rw[e,fits (i:=0) (by decide) (by decide),fits (i:=((4*n:Nat):Int)) (by omega) (by omega),fits (i:=4) (by decide) (by decide),fits (i:=(n:Int)) (by omega) (by omega),if_pos (by decide),fits (i:=((4*n:Nat):Int)+(4-1)) (by omega) (by omega),Bool.or_true]
 rfl
theorem zbh{ns:List Int}{i:Nat}{x:Int}(h:ns[i]? = some x):(ns.map V.int)[i]? = some (V.int x):=by rw[gEm,h];rfl
def RatAns(H:Hp)(o:Option (List Rat))(v:V)(H':Hp):Prop:=zq H H'/\match o with
 | none=>v=.non
 | some qs=>∃(l:Addr) (as:List Addr),v=.ref l/\H l=none/\H' l=some (.lst (as.map V.ref))/\zam H' as qs
inductive zrn(K:Fg)(vs:List V)(H:Hp)(Q:VK)(E:XK):Prop|I:∀(p:Addr) (ns:List Int) (n:Nat),vs=[.ref p,.int (n:Int)]->SqL K H p (ns.map V.int)->ns.length<=1000->n<=1000->(∀v H',RatAns H (Sp.zaF n ns) v H'->Q v H')->zrn K vs H Q E
theorem zd0(B:Bs P base)(T:Txt K mg A):zH P w K mg base CX0 43 A.zih A.zhd ["numbers","count"] (zrn K):=by
 have zeu:=zhY (w:=w) B T
 refine T.zcx.ok zg9 (fun _ _ _ _ h=>?_) fun _ _ _ s H vs Q E hr h=>?_
 ·obtain⟨a,b,n,rfl,_⟩:=h
  rfl
 ·obtain⟨p,ns,n,rfl,hp,hz,hn,k⟩:=h
  refine zQa (zY (z5 ztz (zaN zaC (by rfl) T.zcw PySem.boot_len (za (pv 0) zc)) (zW za2 zi (pv 1)) (nomark _)) (zh (zo zpZ)) zJ) (zQc (qD 2 zg9.nd (zL zc)) (zQc (zde PassesOwn.never rfl (zsd rfl T.zcW (za zi (za (zaN zaC (by rfl) T.zcw PySem.boot_len (za (pv 0) zc)) (za zi zc)))) (zag (i:=3) zg9.nd rfl (Or.inl rfl)) (ze (zY (z5 zgq (zu zA (pv 0) (zW zb7 (pv 3) zi) (fun _ _=>rfl)) zi (nomark _)) (zh (zo zpZ)) zJ)
   (zh (zay (zeh PySem.F.plainAttrs_list PySem.F.slot_list_append PySem.F.type_list_append zdt (pv 2) (za (zw zeu hr rfl T.zh2 T.zfc.kp T.zjW .nil zj (za (zu zA (pv 0) (pv 3) (fun _ _=>rfl)) (za (zu zA (pv 0) (zW zb7 (pv 3) zi) (fun _ _=>rfl)) zc))) zc)))))) (zQl (zh (zo (pv 2))) ?_)));intros
  refine⟨_,rfl,p,_,rfl,.inl hp,_,rfl,_,_,rfl,rfl,?_,rfl,_,rfl,?_⟩
  ·show intBits 2+intBits (n:Int)<=134217728
   have h1:intBits 2<=64:=intBits_le_64 (by decide) (by decide)
   have h2:intBits (n:Int)<=64:=intBits_le_64 (by omega) (by omega)
   omega
  ·rw[lmm]
   by_cases e:ns.length=2*n
   ·rw[e]
    have e1:decide (V.int ((2*n:Nat):Int)=V.int (2*(n:Int)))=true:=decide_eq_true (by rw[Int.natCast_mul];rfl)
    rw[show(!decide (V.int ((2*n:Nat):Int)=V.int (2*(n:Int))))=false by rw[e1];rfl]
    refine zaT ?_
    refine⟨Nat.zero_le _,fun l hl=>?_⟩
    have s1:zq H (upd H l (.lst [])):=zl hl
    refine⟨_,rfl,p,_,rfl,.inl (s1.seq hp),0,_,2,n,rfl,?_,?_⟩
    ·rw[lmm,e]
     exact rg2 hn
    refine zp8 (fun i σ H'=>∃(v:Option V) (as:List Addr),σ = [some (.ref p),some (.int (n:Int)),some (.ref l),v]/\zq H H'/\H' l=some (.lst (as.map V.ref))/\zam H' as ((Sp.pairs ns).take i)/\as.length=i/\∀(j:Nat) (b:Int),j<i->ns[2*j+1]? = some b->1<=b)
     ⟨none,[],rfl,s1,zd,.nil,rfl,fun j b hj=>by omega⟩ ?_ ?_
    ·rintro i σ H' hi ⟨v,as,rfl,s2,hl2,hq,hlen,hd⟩
     obtain⟨a,ha⟩ :∃a,ns[2*i]? = some a:=⟨_,gge (by omega)⟩
     obtain⟨b,hb⟩ :∃b,ns[2*i+1]? = some b:=⟨_,gge (by omega)⟩
     have ea:atI (ns.map V.int) (0+(i:Nat)*2)=some (V.int a):=zei (by omega:(0:Int)+(i:Nat)*2=((2*i:Nat):Int)) (zbh ha)
     have eb:atI (ns.map V.int) (0+(i:Nat)*2+1)=some (V.int b):=zei (by omega:(0:Int)+(i:Nat)*2+1=((2*i+1:Nat):Int)) (zbh hb)
     refine⟨_,rfl,_,rfl,_,_,rfl,rfl,p,_,_,_,rfl,rfl,s2.seq hp,eb,_,_,rfl,rfl,_,rfl,?_⟩
     refine zaZ (fun e1=>?_) (fun e1=>?_)
     ·have e2:b<1:=oDt e1
      refine k _ _ ⟨s2,?_⟩
      have e3:Sp.zaF n ns=none:=if_neg fun q=>by
       have:=zqp ns q.2 i b hb
       omega
      rw[e3]
     ·have e2:¬b<1:=fun z=>e1 (decide_eq_true z)
      refine⟨_,rfl,.inl ⟨rfl,_,SqL.of hl2⟩,_,rfl,_,rfl,p,_,_,_,rfl,rfl,s2.seq hp,ea,_,rfl,_,rfl,_,_,rfl,rfl,p,_,_,_,rfl,rfl,s2.seq hp,eb,a,b,rfl,by omega,fun q hq1=>?_⟩
      have nl:l≠q:=zk hl2 hq1
      have s3:zq H' (upd H' q (qT (zn b a))):=zl hq1
      refine⟨l,_,_,rfl,rfl,(by rw[zf nl];exact hl2),(by rw[lmm];exact zbe (by omega)),?_⟩
      have nq:q≠l:=fun z=>nl z.symm
      have hq2:upd H' q (qT (zn b a)) q=some (qT (zn b a)):=zd
      have hq3:zam (upd H' q (qT (zn b a))) (as++[q]) ((Sp.pairs ns).take (i+1)):=by
       have e5:zn b a=mkRat a b.toNat:=zlR (by omega) a
       rw[Pr.zab (zsp ns i a b ha hb),<-e5]
       exact(hq.same s3).snoc hq2
      refine⟨_,as++[q],rfl,fun c o hc=>?_,?_,?_,by rw[lEa,hlen];rfl,fun j c hj hc=>?_⟩
      ·rw[zf (zk hc hl)]
       exact s3 _ _ (s2 _ _ hc)
      ·rw[zd,lMa]
       rfl
      ·exact hq3.upd_lst (by rw[zf nl];exact hl2)
      ·by_cases hj2:j=i
       ·subst hj2
        rw[hb]at hc
        cases hc
        omega
       ·exact hd j c (by omega) hc
    ·rintro σ H' ⟨v,as,rfl,s2,hl2,hq,hlen,hd⟩
     refine⟨_,rfl,k _ _ ⟨s2,?_⟩⟩
     have e3:Sp.zaF n ns=some (Sp.pairs ns):=if_pos ⟨e,zsq ns fun i b hb=>hd i b (by
      have:=(List.getElem?_eq_some_iff.mp hb).1
      omega) hb⟩
     rw[e3]
     rw[tOl (by rw[Sp.zdT];omega)]at hq
     exact⟨l,as,rfl,hl,hl2,hq⟩
   ·have e1:¬V.int ((ns.length:Nat):Int)=V.int (2*(n:Int)):=fun z=>e (by have:=V.int.inj z;omega)
    rw[show(!decide (V.int ((ns.length:Nat):Int)=V.int (2*(n:Int))))=true by rw[decide_eq_false e1];rfl]
    refine zaY (k _ _ ⟨zq.refl _,?_⟩)
    have e3:Sp.zaF n ns=none:=if_neg fun q=>e q.1
    rw[e3]
theorem zaS(H:Hp)(a:Addr)(o o':HO):upd (upd H a o) a o'=upd H a o':=by
 funext b
 unfold upd
 split<;>rfl
theorem zAY{H:Hp}{x dx:Addr}{o:HO}(hx:H x=none)(hd:H dx=none):zq H (upd (upd H dx (.own x)) x o):=fun b u e=>by
 rw[zf (zk e hx),zf (zk e hd)]
 exact e
def zen(q:zav):List (Str×V):=zK "p" (.int q.p) (zK "b" (.int q.b) (zK "a" (.int q.a) (zK "kind" (.int q.k) [])))
theorem zbE(q:zav):(zen q).lookup ("kind" : Str)=some (V.int q.k):=by unfold zen;simp only[zy];rfl
theorem zba(q:zav):(zen q).lookup ("a" : Str)=some (V.int q.a):=by unfold zen;simp only[zy];rfl
theorem zeG(q:zav):(zen q).lookup ("b" : Str)=some (V.int q.b):=by unfold zen;simp only[zy];rfl
theorem zca(q:zav):(zen q).lookup ("p" : Str)=some (V.int q.p):=by unfold zen;simp only[zy];rfl
def zeA(C:Addr)(H:Hp)(a:Addr)(q:zav):Prop:=∃dx,H a=some (.ins C dx (zen q))
inductive zur(C:Addr)(vs:List V)(H:Hp)(Q:VK)(E:XK):Prop|I:∀(x dx:Addr) (q:zav),vs=[.ref x,.int q.k,.int q.a,.int q.b,.int q.p]->H x=some (.ins C dx [])->Q .non (upd H x (.ins C dx (zen q)))->zur C vs H Q E
theorem zus(T:Txt K mg A):zH P w K mg base CX0 41 A.zkv A.zjq ["self","kind","a","b","p"] (zur A.zaH):=by
 refine T.znQ.ok zug (fun _ _ _ _ h=>?_) fun _ _ _ s H vs Q E hr h=>?_
 ·obtain⟨x,dx,q,rfl,_⟩:=h
  rfl
 ·obtain⟨x,dx,q,rfl,hx,k⟩:=h
  refine zQa (zaX (pv 0) (pv 1) rfl) (zQc (zaX (pv 0) (pv 2) rfl) (zQc (zaX (pv 0) (pv 3) rfl) (zQl (zh (zaX (pv 0) (pv 4) rfl)) ?_)));intros
  refine⟨_,rfl,_,rfl,x,_,dx,_,rfl,hx,T.zG,T.zbK,(by show 0<1000;decide),?_⟩
  refine⟨_,rfl,_,rfl,x,_,dx,_,rfl,zd,T.zG,T.zaA,(by show 1<1000;decide),?_⟩
  refine⟨_,rfl,_,rfl,x,_,dx,_,rfl,zd,T.zG,T.zcM,(by show 2<1000;decide),?_⟩
  refine⟨_,rfl,_,rfl,x,_,dx,_,rfl,zd,T.zG,T.zbf,(by show 3<1000;decide),?_⟩
  rw[zaS,zaS,zaS]
  exact k
def zT(C:Addr)(H:Hp)(as:List Addr)(qs:List zav):Prop:=Paired (fun a q=>zeA C H a q) as qs
theorem zT.same{C:Addr}{H H':Hp}(s:zq H H') :∀{as:List Addr} {qs:List zav},zT C H as qs->zT C H' as qs
 | _,_,.nil=>.nil
 | _,_,.cons ⟨dx,h⟩ t=>.cons ⟨dx,s _ _ h⟩ (zT.same s t)
theorem zT.snoc{C:Addr}{H:Hp}{a:Addr}{q:zav}(h:zeA C H a q) :∀{as:List Addr} {qs:List zav},zT C H as qs->zT C H (as++[a]) (qs++[q])
 | _,_,.nil=>.cons h .nil
 | _,_,.cons g t=>.cons g (zT.snoc h t)
theorem zT.length{C:Addr}{H:Hp} :∀{as:List Addr} {qs:List zav},zT C H as qs->as.length=qs.length
 | _,_,.nil=>rfl
 | _,_,.cons _ t=>by rw[List.length_cons,List.length_cons,zT.length t]
theorem zT.upd_lst{C:Addr}{H:Hp}{l:Addr}{xs:List V}{o:HO}(h:H l=some (.lst xs)) :∀{as:List Addr} {qs:List zav},zT C H as qs->zT C (upd H l o) as qs
 | _,_,.nil=>.nil
 | _,_,.cons ⟨dx,g⟩ t=>.cons ⟨dx,by rw[zf (zI g h (by intro z;cases z))];exact g⟩ (zT.upd_lst h t)
theorem zT.get{C:Addr}{H:Hp} :∀{as:List Addr} {qs:List zav} {i:Nat} {a:Addr},zT C H as qs->as[i]? = some a->∃q,qs[i]? = some q/\zeA C H a q
 | _,_,_,_,.nil,e=>by simp at e
 | _,_,0,_,.cons g _,e=>by simp at e;subst e;exact⟨_,rfl,g⟩
 | _,_,i+1,_,.cons _ t,e=>by
  obtain⟨q,h1,h2⟩:=zT.get (i:=i) t (by simpa using e)
  exact⟨q,by simpa using h1,h2⟩
inductive zs0(K:Fg)(C:Addr)(vs:List V)(H:Hp)(Q:VK)(E:XK):Prop|I:∀(p:Addr) (ns:List Int) (n:Nat),vs=[.ref p]->SqL K H p (ns.map V.int)->ns.length=4*n->n<=200->(∀(l:Addr) (as:List Addr) (H':Hp),zq H H'->H l=none->H' l=some (.lst (as.map V.ref))->zT C H' as (quads ns)->Q (.ref l) H')->zs0 K C vs H Q E
theorem zmF(T:Txt K mg A):zH P w K mg base CX0 43 A.zjt A.zif ["numbers"] (zs0 K A.zaH):=by
 have zwn:=@zus P w K mg base A T
 refine T.zfX.ok zid (fun _ _ _ _ h=>?_) fun _ _ _ s H vs Q E hr h=>?_
 ·obtain⟨x,ns,n,rfl,_⟩:=h
  rfl
 ·obtain⟨p,ns,n,rfl,hp,hlen,hn,k⟩:=h
  refine zQa (qD 1 zid.nd (zL zc)) (zQc (zde PassesOwn.never rfl (zsd rfl T.zcW (za zi (za (zaN zaC (by rfl) T.zcw PySem.boot_len (za (pv 0) zc)) (za (zas rfl T.ziD) zc)))) (zag (i:=2) zid.nd rfl (Or.inl rfl)) (zh (zay (zeh PySem.F.plainAttrs_list PySem.F.slot_list_append PySem.F.type_list_append zdt (pv 1) (za (zc8 T.zBf zwn hr rfl T.zBd T.zwf .nil zj (za (zu zA (pv 0) (pv 2) (fun _ _=>rfl)) (za (zu zA (pv 0) (zW zb7 (pv 2) zi) (fun _ _=>rfl)) (za (zu zA (pv 0) (zW zb7 (pv 2) zi) (fun _ _=>rfl)) (za (zu zA (pv 0) (zW zb7 (pv 2) zi) (fun _ _=>rfl)) zc))))) zc))))) (zQl (zh (zo (pv 1))) ?_));intros
  refine⟨Nat.zero_le _,fun l hl=>?_⟩
  have s1:zq H (upd H l (.lst [])):=zl hl
  refine⟨_,rfl,p,_,rfl,.inl (s1.seq hp),0,_,4,n,rfl,?_,?_⟩
  ·rw[lmm,hlen]
   exact rg4 (by omega)
  refine zp8 (fun i σ H'=>∃(v:Option V) (as:List Addr),σ = [some (.ref p),some (.ref l),v]/\zq H H'/\H' l=some (.lst (as.map V.ref))/\zT A.zaH H' as ((quads ns).take i)/\as.length=i)
   ⟨none,[],rfl,s1,zd,.nil,rfl⟩ ?_ ?_
  ·rintro i σ H' hi ⟨v,as,rfl,s2,hl2,hq,hlen2⟩
   obtain⟨a,ha⟩ :∃a,ns[4*i]? = some a:=⟨_,gge (by omega)⟩
   obtain⟨b,hb⟩ :∃b,ns[4*i+1]? = some b:=⟨_,gge (by omega)⟩
   obtain⟨c,hc⟩ :∃c,ns[4*i+2]? = some c:=⟨_,gge (by omega)⟩
   obtain⟨d,hd⟩ :∃d,ns[4*i+3]? = some d:=⟨_,gge (by omega)⟩
   have ea:atI (ns.map V.int) (0+(i:Nat)*4)=some (V.int a):=zei (by omega:(0:Int)+(i:Nat)*4=((4*i:Nat):Int)) (zbh ha)
   have eb:atI (ns.map V.int) (0+(i:Nat)*4+1)=some (V.int b):=zei (by omega:(0:Int)+(i:Nat)*4+1=((4*i+1:Nat):Int)) (zbh hb)
   have ec:atI (ns.map V.int) (0+(i:Nat)*4+2)=some (V.int c):=zei (by omega:(0:Int)+(i:Nat)*4+2=((4*i+2:Nat):Int)) (zbh hc)
   have ed:atI (ns.map V.int) (0+(i:Nat)*4+3)=some (V.int d):=zei (by omega:(0:Int)+(i:Nat)*4+3=((4*i+3:Nat):Int)) (zbh hd)
   refine⟨_,rfl,.inl ⟨rfl,_,SqL.of hl2⟩,_,rfl,_,rfl,p,_,_,_,rfl,rfl,s2.seq hp,ea,
    _,rfl,_,rfl,_,_,rfl,rfl,p,_,_,_,rfl,rfl,s2.seq hp,eb,
    _,rfl,_,rfl,_,_,rfl,rfl,p,_,_,_,rfl,rfl,s2.seq hp,ec,
    _,rfl,_,rfl,_,_,rfl,rfl,p,_,_,_,rfl,rfl,s2.seq hp,ed,fun x dx hx hdx hne=>?_⟩
   refine⟨x,dx,⟨a,b,c,d⟩,rfl,zd,rfl,?_⟩
   rw[zaS]
   have s3:zq H' (upd (upd H' dx (.own x)) x (.ins A.zaH dx (zen ⟨a,b,c,d⟩))):=zAY hx hdx
   refine⟨l,_,_,rfl,rfl,s3 _ _ hl2,(by rw[lmm];exact zbe (by omega)),?_⟩
   refine⟨_,as++[x],rfl,fun e o he=>?_,?_,?_,by rw[lEa,hlen2];rfl⟩
   ·rw[zf (zk he hl)]
    exact s3 _ _ (s2 _ _ he)
   ·rw[zd,lMa]
    rfl
   ·rw[Pr.zab (zsr ns i a b c d ha hb hc hd)]
    exact((hq.same s3).snoc ⟨dx,zd⟩).upd_lst (s3 _ _ hl2)
  ·rintro σ H' ⟨v,as,rfl,s2,hl2,hq,hlen2⟩
   rw[tOl (by rw[zeZ];omega)]at hq
   exact⟨_,rfl,k l as H' s2 hl hl2 hq⟩
def okB(n:Int)(x:Int):Bool:=decide (-1<=x)&&decide (x<n)
inductive zs1(K:Fg)(vs:List V)(H:Hp)(Q:VK)(E:XK):Prop|I:∀(p:Addr) (ns:List Int) (a m:Int),vs=[.ref p,.int a,.int m]->SqL K H p (ns.map V.int)->ns.length<=1000->(∀H',zq H H'->Q (.bl (decide ((ns.length:Int)=a)&&ns.all (okB m))) H')->zs1 K vs H Q E
theorem zs2(T:Txt K mg A):zH P w K mg base CX0 41 A.zjs A.zie ["begins","accounts","parameters"] (zs1 K):=by
 refine T.ziz.ok zic (fun _ _ _ _ h=>?_) fun _ _ _ s H vs Q E hr h=>?_
 ·obtain⟨x,ns,a,m,rfl,_⟩:=h
  rfl
 ·obtain⟨p,ns,a,m,rfl,hp,hz,k⟩:=h
  refine zQa (zY (z5 ztz (zaN zaC (by rfl) T.zcw PySem.boot_len (za (pv 0) zc)) (pv 1) (nomark _)) (zh (zo zeO)) zJ) (zQl (zh (zo (zaN (zym rfl) (by rfl) T.zzb boot_all (za (zfR rfl zic.nd (zdP (pv 0)) (zbQ (own:=[("begin",3)]) (by rfl)) (fun _ _ _ _ _=>(zag (i:=3) zic.nd rfl (Or.inl rfl))) (fun _ _ _ _ _=>zcq) (fun _ _ _ _ _=>(zf0 zds zgq (zAe zyb zi) (pv 3) (pv 2)))) zc)))) ?_);intros
  refine⟨_,rfl,p,_,rfl,.inl hp,_,rfl,rfl,_,rfl,?_⟩
  rw[lmm]
  by_cases e:(ns.length:Int)=a
  ·rw[show(!decide (V.int (ns.length:Int)=V.int a))=false by rw[decide_eq_true (by rw[e])];rfl]
   refine zaT ?_
   rw[decide_eq_true e,Bool.true_and]at k
   refine⟨_,rfl,p,rfl,⟨_,hp⟩,fun D hD=>?_⟩
   refine zgc (K:=K) (a:=p) (xs:=ns.map V.int) (fun i H'=>zq H H'/\H' D=some (.lst (((ns.take i).map (okB m)).map V.bl))) ⟨zl hD,zd⟩ (fun i H' _ ⟨s,_⟩=>s.seq hp) ?_ ?_
   ·rintro i x H' hx ⟨s2,hD2⟩
    obtain⟨z,hz2,rfl⟩ :∃z,ns[i]? = some z/\x=V.int z:=by
     rw[gEm]at hx
     cases e2:ns[i]? with
     | none=>rw[e2]at hx;cases hx
     | some z=>rw[e2]at hx;exact⟨z,rfl,(oSi hx).symm⟩
    refine⟨rfl,_,rfl,_,rfl,_,_,rfl,rfl,_,rfl,?_⟩
    have hlt:i<ns.length:=(List.getElem?_eq_some_iff.mp hz2).1
    have fin :∀b:Bool,b=okB m z->∃acc,H' D=some (.lst acc)/\acc.length<sizeLine/\(zq H (upd H' D (.lst (acc++[V.bl b])))/\upd H' D (.lst (acc++[V.bl b])) D=some (.lst (((ns.take (i+1)).map (okB m)).map V.bl))):=by
     rintro b rfl
     refine⟨_,hD2,(by rw[lmm,lmm,List.length_take];exact zbe (by omega)),fun c o hc=>?_,?_⟩
     ·rw[zf (zk hc hD)];exact s2 _ _ hc
     ·rw[zd,Pr.zab hz2,lMa,lMa];rfl
    refine zaZ (fun e1=>?_) (fun e1=>?_)
    ·refine⟨_,rfl,_,_,rfl,rfl,?_⟩
     refine fin _ ?_
     unfold okB
     rw[show decide (-1<=z)=true from e1,Bool.true_and]
    ·refine fin _ ?_
     unfold okB
     rw[show decide (-1<=z)=false from(Bool.not_eq_true _).mp e1,Bool.false_and]
   ·rintro H' ⟨s2,hD2⟩
    rw[lmm,List.take_length]at hD2
    refine⟨D,_,rfl,SqL.of hD2,?_⟩
    have:=k H' s2
    rw[List.all_map]
    exact this
  ·rw[show(!decide (V.int (ns.length:Int)=V.int a))=true by rw[decide_eq_false (fun z=>e (V.int.inj z))];rfl]
   refine zaY ?_
   rw[decide_eq_false e,Bool.false_and]at k
   exact k H (zq.refl _)
inductive zxy(C:Addr)(vs:List V)(H:Hp)(Q:VK)(E:XK):Prop|I:∀(r:Addr) (q:zav) (n m:Int),vs=[.ref r,.int n,.int m]->zeA C H r q->Q (.bl (okQ n m q)) H->zxy C vs H Q E
theorem zxz(T:Txt K mg A):zH P w K mg base CX0 41 A.znE A.zl1 ["rule","accounts","parameters"] (zxy A.zaH):=by
 refine T.zmn.ok zxt (fun _ _ _ _ h=>?_) fun _ _ _ s H vs Q E hr h=>?_
 ·obtain⟨r,q,n,m,rfl,_⟩:=h
  rfl
 ·obtain⟨r,q,n,m,rfl,⟨dx,hq⟩,k⟩:=h
  refine zQa (zY (zgo (zpo zds zds zi (zg (pv 0) rfl) (zas rfl T.zv9))) (zh (zo zeO)) zJ) (zQc (zY (PW.pt (zkV (z5 zyi (zg (pv 0) rfl) (zn9 (v:=.ref A.zfD) rfl T.zoF rfl) (by with_unfolding_all rfl)) (ziV (z5 ztz (zg (pv 0) rfl) zi (nomark _))))) (zh (zo zeO)) zJ) (zQl (zh (zo (zfG (zf0 zds zgq zi (zg (pv 0) rfl) (pv 1)) (zfG (zf0 zds zgq zi (zg (pv 0) rfl) (pv 1)) (zi3 (zf0 zds zgq zi (zg (pv 0) rfl) (pv 2))))))) ?_));intros
  have no:okQ n m q=false->Q (.bl false) H:=fun e=>by rw[e]at k;exact k
  have f0 :∀{b:Bool},¬b=true->b=false:=fun {b} e=>by cases b<;>first|rfl|exact absurd rfl e
  refine⟨_,rfl,r,_,dx,_,_,rfl,hq,T.zG,T.zbK,zbE q,_,_,rfl,rfl,_,rfl,?_⟩
  refine zaZ (fun e1=>?_) (fun e1=>?_)
  ·refine⟨_,_,rfl,rfl,_,rfl,?_⟩
   refine zaZ (fun e2=>?_) (fun e2=>?_)
   ·refine no ?_
    unfold okQ
    have e3:decide (q.k<=5)=false:=by
     cases h:decide (q.k<=5)with
     | false=>rfl
     | true=>rw[show decide (q.k<=5)=true from h]at e2;cases e2
    rw[e3,Bool.and_false]
    rfl
   ·have e3:decide (q.k<=5)=true:=by
     cases h:decide (q.k<=5)with
     | true=>rfl
     | false=>exact absurd (show(!decide (q.k<=5))=true by rw[h];rfl) e2
    have fin:((q.k==0 || q.k==1 || q.k==5) && !decide (q.b=0))=false->tRet (tAndV (tChain (rI0 fun i j=>.bl (decide (i<=j))) (rI0 fun i j=>.bl (decide (i<j))) (tC (.int 0)) (tFld K (zbd 0) "a") (zbd 1))
      (tAndV (tChain (rI0 fun i j=>.bl (decide (i<=j))) (rI0 fun i j=>.bl (decide (i<j))) (tC (.int 0)) (tFld K (zbd 0) "b") (zbd 1)) (tChain (rI0 fun i j=>.bl (decide (i<=j))) (rI0 fun i j=>.bl (decide (i<j))) (tC (.int 0)) (tFld K (zbd 0) "p") (zbd 2))))
      {nx:=fun _ H'=>Q .non H',rt:=Q} [some (.ref r),some (.int n),some (.int m)] H:=by
     intro e4
     have ok1:okQ n m q=((decide (0<=q.a)&&decide (q.a<n))&&((decide (0<=q.b)&&decide (q.b<n))&&(decide (0<=q.p)&&decide (q.p<m)))):=by
      unfold okQ
      rw[show decide (0<=q.k)=true from e1,e3,e4]
      rfl
     rw[ok1]at k
     refine⟨_,rfl,r,_,dx,_,_,rfl,hq,T.zG,T.zaA,zba q,_,_,rfl,rfl,_,rfl,?_⟩
     have out :∀{b:Bool},b=false->Q (.bl (b&&((decide (0<=q.b)&&decide (q.b<n))&&(decide (0<=q.p)&&decide (q.p<m))))) H->Q (.bl false) H:=fun {b} e z=>by rw[e,Bool.false_and]at z;exact z
     refine zaZ (fun a1=>?_) (fun a1=>?_)
     ·refine⟨_,rfl,_,_,rfl,rfl,_,rfl,?_⟩
      refine zaZ (fun a2=>?_) (fun a2=>?_)
      ·rw[show decide (0<=q.a)=true from a1,show decide (q.a<n)=true from a2,Bool.true_and,Bool.true_and]at k
       refine⟨_,rfl,r,_,dx,_,_,rfl,hq,T.zG,T.zcM,zeG q,_,_,rfl,rfl,_,rfl,?_⟩
       refine zaZ (fun b1=>?_) (fun b1=>?_)
       ·refine⟨_,rfl,_,_,rfl,rfl,_,rfl,?_⟩
        refine zaZ (fun b2=>?_) (fun b2=>?_)
        ·rw[show decide (0<=q.b)=true from b1,show decide (q.b<n)=true from b2,Bool.true_and,Bool.true_and]at k
         refine⟨_,rfl,r,_,dx,_,_,rfl,hq,T.zG,T.zbf,zca q,_,_,rfl,rfl,_,rfl,?_⟩
         refine zaZ (fun c1=>?_) (fun c1=>?_)
         ·refine⟨_,rfl,_,_,rfl,rfl,?_⟩
          rw[show decide (0<=q.p)=true from c1,Bool.true_and]at k
          exact k
         ·rw[show decide (0<=q.p)=false from f0 c1,Bool.false_and]at k
          exact k
        ·rw[show decide (q.b<n)=false from f0 b2,Bool.and_false,Bool.false_and]at k
         exact k
       ·refine⟨_,rfl,zaT ?_⟩
        rw[show decide (0<=q.b)=false from f0 b1,Bool.false_and,Bool.false_and]at k
        exact k
      ·rw[show decide (q.a<n)=false from f0 a2,Bool.and_false,Bool.false_and]at k
       exact k
     ·refine⟨_,rfl,zaT ?_⟩
      rw[show decide (0<=q.a)=false from f0 a1,Bool.false_and,Bool.false_and]at k
      exact k
    refine⟨_,rfl,r,_,dx,_,_,rfl,hq,T.zG,T.zbK,zbE q,_,_,rfl,.inr (T.zoG _),rfl,rfl,_,rfl,?_⟩
    have ein:inV (V.int q.k) [V.int 0,V.int 1,V.int 5]=(q.k==0 || q.k==1 || q.k==5):=by
     show((decide (0=q.k)) || ((decide (1=q.k)) || ((decide (5=q.k)) || false)))=_
     have h :∀c:Int,decide (c=q.k)=(q.k==c):=fun c=>by
      rw[Bool.beq_eq_decide_eq]
      exact decide_eq_decide.mpr eq_comm
     rw[h,h,h,Bool.or_false,Bool.or_assoc]
    show(if(inV (V.int q.k) [V.int 0,V.int 1,V.int 5])=true then _ else _)
    rw[ein]
    refine zaZ (fun d1=>?_) (fun d1=>?_)
    ·refine⟨_,rfl,r,_,dx,_,_,rfl,hq,T.zG,T.zcM,zeG q,rfl,_,rfl,?_⟩
     refine zaZ (fun d2=>?_) (fun d2=>?_)
     ·refine no ?_
      unfold okQ
      have d3:(!decide (q.b=0))=true:=by
       have:(!decide (V.int q.b=V.int 0))=true:=d2
       rw[Bool.not_eq_true',decide_eq_false_iff_not]at this⊢
       exact fun z=>this (by rw[z])
      rw[d1,d3]
      simp
     ·refine fin ?_
      have d3:(!decide (q.b=0))=false:=by
       have:¬(!decide (V.int q.b=V.int 0))=true:=d2
       cases h:decide (q.b=0)with
       | true=>rfl
       | false=>exact absurd (by rw[Bool.not_eq_true',decide_eq_false_iff_not];exact fun z=>(of_decide_eq_false h) (V.int.inj z)) this
      rw[d3,Bool.and_false]
    ·refine zaT (fin ?_)
     rw[f0 d1,Bool.false_and]
  ·refine⟨_,rfl,zaY (no ?_)⟩
   unfold okQ
   rw[show decide (0<=q.k)=false from f0 e1]
   rfl
inductive zut(K:Fg)(vs:List V)(H:Hp)(Q:VK)(E:XK):Prop|I:∀(p:Addr) (ns:List Int) (n m:Int),vs=[.ref p,.int n,.int m]->SqL K H p (ns.map V.int)->ns.length<=400->(∀H',zq H H'->Q (.bl (decide (ns.length%4=0)&&(quads ns).all (okQ n m))) H')->zut K vs H Q E
theorem zuu(T:Txt K mg A):zH P w K mg base CX0 44 A.zkx A.zju ["numbers","accounts","parameters"] (zut K):=by
 have zjY:=@zmF P w K mg base A T
 have zzd:=(@zxz P w K mg base A T).up 43
 refine T.zjN.ok zjf (fun _ _ _ _ h=>?_) fun _ _ _ s H vs Q E hr h=>?_
 ·obtain⟨x,ns,a,m,rfl,_⟩:=h
  rfl
 ·obtain⟨p,ns,n,m,rfl,hp,hz,k⟩:=h
  refine zQa (zY (z5 ztz (zW zBv (zaN zaC (by rfl) T.zcw PySem.boot_len (za (pv 0) zc)) (zas rfl T.ziD)) zi (nomark _)) (zh (zo zeO)) zJ) (zQl (zh (zo (zaN (zym rfl) (by rfl) T.zzb boot_all (za (zfR rfl zjf.nd (zdP (zw zjY hr rfl T.zmK T.zfX.kp T.zn2 .nil zj (za (pv 0) zc))) (zbQ (own:=[("rule",3)]) (by rfl)) (fun _ _ _ _ _=>(zag (i:=3) zjf.nd rfl (Or.inl rfl))) (fun _ _ _ _ _=>zcq) (fun _ _ _ _ _=>(zw zzd hr rfl T.zxK T.zmn.kp T.zzc .nil zj (za (pv 3) (za (pv 1) (za (pv 2) zc)))))) zc)))) ?_);intros
  refine⟨_,rfl,p,_,rfl,.inl hp,_,_,rfl,rfl,(by show(0:Int)<4;decide),rfl,_,rfl,?_⟩
  rw[lmm]
  by_cases e:ns.length%4=0
  ·have e1:V.int ((ns.length:Int)%4)=V.int 0:=by congr 1;omega
   rw[show(!decide (V.int ((ns.length:Int)%4)=V.int 0))=false by rw[decide_eq_true e1];rfl]
   refine zaT ?_
   rw[decide_eq_true e,Bool.true_and]at k
   refine⟨_,rfl,p,ns,ns.length/4,rfl,hp,by omega,by omega,fun l as H1 s1 hl hl1 hq=>?_⟩
   refine⟨l,rfl,⟨_,SqL.of hl1⟩,fun D hD=>?_⟩
   have hlen:=hq.length
   rw[zeZ]at hlen
   refine zgc (K:=K) (a:=l) (xs:=as.map V.ref) (fun i H'=>zq H1 H'/\H' D=some (.lst ((((quads ns).take i).map (okQ n m)).map V.bl))) ⟨zl hD,zd⟩ (fun i H' _ ⟨s,_⟩=>s.seq (SqL.of hl1)) ?_ ?_
   ·rintro i x H' hx ⟨s2,hD2⟩
    obtain⟨z,hz2,rfl⟩ :∃z,as[i]? = some z/\x=V.ref z:=by
     rw[gEm]at hx
     cases e2:as[i]? with
     | none=>rw[e2]at hx;cases hx
     | some z=>rw[e2]at hx;exact⟨z,rfl,(oSi hx).symm⟩
    obtain⟨q,hq1,hq2⟩:=(hq.same s2).get hz2
    have hlt:i<as.length:=(List.getElem?_eq_some_iff.mp hz2).1
    refine⟨rfl,_,rfl,_,rfl,_,rfl,z,q,n,m,rfl,hq2,_,hD2,(by rw[lmm,lmm,List.length_take];exact zbe (by omega)),fun c o hc=>?_,?_⟩
    ·rw[zf (zk hc hD)];exact s2 _ _ hc
    ·rw[zd,Pr.zab hq1,lMa,lMa];rfl
   ·rintro H' ⟨s2,hD2⟩
    rw[tOl (by rw[zeZ,lmm];omega)]at hD2
    refine⟨D,_,rfl,SqL.of hD2,?_⟩
    have:=k H' (s1.trans s2)
    rw[List.all_map]
    exact this
  ·have e1:¬V.int ((ns.length:Int)%4)=V.int 0:=fun z=>e (by have:=V.int.inj z;omega)
   rw[show(!decide (V.int ((ns.length:Int)%4)=V.int 0))=true by rw[decide_eq_false e1];rfl]
   refine zaY ?_
   rw[decide_eq_false e,Bool.false_and]at k
   exact k H (zq.refl _)
def zcP(n m:Int)(b r:Addr):List (Str×V):=zK "rules" (.ref r) (zK "begins" (.ref b) (zK "parameters" (.int m) (zK "accounts" (.int n) [])))
theorem zby(n m:Int)(b r:Addr):(zcP n m b r).lookup ("accounts" : Str)=some (V.int n):=by unfold zcP;simp only[zy];rfl
theorem zaw(n m:Int)(b r:Addr):(zcP n m b r).lookup ("parameters" : Str)=some (V.int m):=by unfold zcP;simp only[zy];rfl
theorem zny(n m:Int)(b r:Addr):(zcP n m b r).lookup ("begins" : Str)=some (V.ref b):=by unfold zcP;simp only[zy];rfl
theorem zkt(n m:Int)(b r:Addr):(zcP n m b r).lookup ("rules" : Str)=some (V.ref r):=by unfold zcP;simp only[zy];rfl
inductive zuv(C:Addr)(vs:List V)(H:Hp)(Q:VK)(E:XK):Prop|I:∀(x dx:Addr) (n m:Int) (b r:Addr),vs=[.ref x,.int n,.int m,.ref b,.ref r]->H x=some (.ins C dx [])->Q .non (upd H x (.ins C dx (zcP n m b r)))->zuv C vs H Q E
theorem znz(T:Txt K mg A):zH P w K mg base CX0 41 A.zkw A.zjr ["self","accounts","parameters","begins","rules"] (zuv A.zbY):=by
 refine T.znR.ok zuh (fun _ _ _ _ h=>?_) fun _ _ _ s H vs Q E hr h=>?_
 ·obtain⟨x,dx,n,m,b,r,rfl,_⟩:=h
  rfl
 ·obtain⟨x,dx,n,m,b,r,rfl,hx,k⟩:=h
  refine zQa (zaX (pv 0) (pv 1) rfl) (zQc (zaX (pv 0) (pv 2) rfl) (zQc (zaX (pv 0) (pv 3) rfl) (zQl (zh (zaX (pv 0) (pv 4) rfl)) ?_)));intros
  refine⟨_,rfl,_,rfl,x,_,dx,_,rfl,hx,T.zaI,T.zbL,(by show 0<1000;decide),?_⟩
  refine⟨_,rfl,_,rfl,x,_,dx,_,rfl,zd,T.zaI,T.zac,(by show 1<1000;decide),?_⟩
  refine⟨_,rfl,_,rfl,x,_,dx,_,rfl,zd,T.zaI,T.zhu,(by show 2<1000;decide),?_⟩
  refine⟨_,rfl,_,rfl,x,_,dx,_,rfl,zd,T.zaI,T.zfY,(by show 3<1000;decide),?_⟩
  rw[zaS,zaS,zaS]
  exact k
end
end My
namespace L2
open PySem PySem.Spec PyProof.Rows
theorem zuw{K:Fg}{a b:Addr}{xs ys:List V}{g:TG}{tt:TT}{te:TE}{vs:List Nat}{σ:St}{H1:Hp}{D:Addr}{Qd:Hp->Prop}(hlen:xs.length=ys.length)(Pv:Nat->Hp->Prop)(h0:Pv 0 (upd H1 D (.lst [])))
  (hl :∀i H,i<=xs.length->Pv i H->SqL K H a xs/\SqL K H b ys)
  (hs :∀i x y T H,xs[i]? = some x->ys[i]? = some y->H T=none->Pv i H->g (.ref T) (wipe σ vs) (upd H T (.tup [x,y])) fun σ2 H2=>wipe σ2 vs=wipe σ vs/\tt σ2 H2 fun b H3=>
   if b=true then te σ2 H3 fun y H4=>∃acc,H4 D=some (.lst acc)/\acc.length<sizeLine/\Pv (i+1) (upd H4 D (.lst (acc++[y])))else Pv (i+1) H3) (hd :∀H,Pv xs.length H->Qd H) :
  ∃W:Nat->Nat->Hp->Prop,(∃m,W 0 m (upd H1 D (.lst [])))/\∀i m H,W i m H->
   ((Itz K a b).stop i H/\Qd H)\/((Itz K a b).go i H/\∃Nx:Hp->Prop,(∀H',Nx H'->∃m',m'<m/\W (i+1) m' H')/\∀x H',(Itz K a b).yld i H x H'->g x (wipe σ vs) H' fun σ2 H2=>wipe σ2 vs=wipe σ vs/\tt σ2 H2 fun b H3=>
     if b=true then te σ2 H3 fun y H4=>∃acc,H4 D=some (.lst acc)/\acc.length<sizeLine/\Nx (upd H4 D (.lst (acc++[y])))else Nx H3):=by
 refine⟨fun i m H=>m=xs.length-i/\i<=xs.length/\Pv i H,⟨xs.length,by simp,Nat.zero_le _,h0⟩,?_⟩
 rintro i m H ⟨rfl,hi,p⟩
 obtain⟨q1,q2⟩:=hl i H hi p
 by_cases hlt:i<xs.length
 ·refine .inr ⟨⟨xs,ys,xs[i],ys[i]'(by omega),q1,q2,by simp[hlt],by simp[show i<ys.length by omega]⟩,Pv (i+1),fun H' p'=>⟨xs.length-(i+1),by omega,rfl,hlt,p'⟩,fun v H' y=>?_⟩
  obtain⟨T,x,y,rfl,hT,rfl,h1,h2⟩:=y
  exact hs i x y T H (h1 xs q1) (h2 ys q2) hT p
 ·have e:i=xs.length:=by omega
  subst e
  exact .inl ⟨⟨xs,ys,q1,q2,.inl (nLr _)⟩,hd H p⟩
end L2
namespace My
open PySem PySem.Spec PyProof.Rows L2 Pr
open Builtin.Int (intBits)
section
variable {P:Program}{w:World}{K:Fg}{mg:Str->Option Value}{base:Heap}{A:Ad}
def RowQ(H:Hp)(row:List Int)(Q:VK):Prop:=∀(l:Addr) (H':Hp),zq H H'->H l=none->H' l=some (.lst (row.map V.int))->Q (.ref l) H'
theorem zgC{ns:List Int}{i:Nat}{x:V}(hx:(ns.map V.int)[i]? = some x) :∃z,ns[i]? = some z/\x=V.int z:=by
 rw[gEm]at hx
 cases e2:ns[i]? with
 | none=>rw[e2]at hx;cases hx
 | some z=>rw[e2]at hx;exact⟨z,rfl,(oSi hx).symm⟩
inductive zzM(K:Fg)(vs:List V)(H:Hp)(Q:VK)(E:XK):Prop|I:∀(p:Addr) (row:List Int) (f:Int),vs=[.ref p,.int f]->SqL K H p (row.map V.int)->row.length<=100->zaU 60000000 row->bI f<=60000000->RowQ H (za1 f row) Q->zzM K vs H Q E
theorem zpB(T:Txt K mg A):zH P w K mg base CX0 41 A.zrC A.zpJ ["row","factor"] (zzM K):=by
 refine T.zjO.ok zpz (fun _ _ _ _ h=>?_) fun _ _ _ s H vs Q E hr h=>?_
 ·obtain⟨p,row,f,rfl,_⟩:=h
  rfl
 ·obtain⟨p,row,f,rfl,hp,hz,hsz,hf,k⟩:=h
  refine⟨_,(zh (zo (zfR rfl zpz.nd (zdP (pv 0)) (zbQ (own:=[("number",2)]) (by rfl)) (fun _ _ _ _ _=>(zag (i:=2) zpz.nd rfl (Or.inl rfl))) (fun _ _ _ _ _=>zcq) (fun _ _ _ _ _=>(zW za2 (pv 1) (pv 2)))))),?_⟩
  refine⟨_,rfl,p,rfl,⟨_,hp⟩,fun D hD=>?_⟩
  refine zgc (K:=K) (a:=p) (xs:=row.map V.int) (fun i H'=>zq H H'/\H' D=some (.lst ((za1 f (row.take i)).map V.int))) ⟨zl hD,zd⟩ (fun i H' _ ⟨s,_⟩=>s.seq hp) ?_ ?_
  ·rintro i x H' hx ⟨s2,hD2⟩
   obtain⟨z,hz2,rfl⟩:=zgC hx
   have hlt:i<row.length:=(List.getElem?_eq_some_iff.mp hz2).1
   refine⟨rfl,_,rfl,_,rfl,_,_,rfl,rfl,zcU hf (hsz z (mge hz2)),_,hD2,(by rw[lmm];unfold za1;rw[lmm,List.length_take];exact zbe (by omega)),fun c o hc=>?_,?_⟩
   ·rw[zf (zk hc hD)];exact s2 _ _ hc
   ·rw[zd,Pr.zab hz2]
    unfold za1
    rw[lMa,lMa];rfl
  ·rintro H' ⟨s2,hD2⟩
   rw[lmm,List.take_length]at hD2
   exact k D H' s2 hD hD2
inductive zAZ(K:Fg)(vs:List V)(H:Hp)(Q:VK)(E:XK):Prop|I:∀(p q:Addr) (r t:List Int),vs=[.ref p,.ref q]->SqL K H p (r.map V.int)->SqL K H q (t.map V.int)->r.length=t.length->r.length<=100->RowQ H (zel r t) Q->zAZ K vs H Q E
theorem zok(T:Txt K mg A):zH P w K mg base CX0 41 A.zuV A.zrD ["row","other"] (zAZ K):=by
 refine T.zi1.ok zoi (fun _ _ _ _ h=>?_) fun _ _ _ s H vs Q E hr h=>?_
 ·obtain⟨p,q,r,t,rfl,_⟩:=h
  rfl
 ·obtain⟨p,q,r,t,rfl,hp,hq,hl,hz,k⟩:=h
  refine⟨_,(zh (zo (zfR (g:=gTup K 2 (gCons (zgp 2) (gCons (zgp 3) gNil))) rfl zoi.nd (zm4 rfl T.zn1 (za (pv 0) (za (pv 1) zc))) (zbQ (own:=[("left",2),("right",3)]) (by rfl)) (fun _ _ _ _ _=>(zhI (n:=2) rfl (zbP (zag (i:=2) zoi.nd rfl (Or.inl rfl)) (zbP (zag (i:=3) zoi.nd rfl (Or.inl rfl)) zga)))) (fun _ _ _ _ _=>zcq) (fun _ _ _ _ _=>(zW zb7 (pv 2) (pv 3)))))),?_⟩
  refine⟨_,rfl,_,rfl,p,q,_,_,rfl,hp,hq,fun D hD=>?_⟩
  refine zuw (K:=K) (a:=p) (b:=q) (xs:=r.map V.int) (ys:=t.map V.int) (by rw[lmm,lmm,hl]) (fun i H'=>zq H H'/\H' D=some (.lst ((zel (r.take i) (t.take i)).map V.int))) ⟨zl hD,zd⟩ (fun i H' _ ⟨s,_⟩=>⟨s.seq hp,s.seq hq⟩) ?_ ?_
  ·rintro i x y T' H' hx hy hT ⟨s2,hD2⟩
   obtain⟨z,hz2,rfl⟩:=zgC hx
   obtain⟨u,hu2,rfl⟩:=zgC hy
   have hlt:i<r.length:=(List.getElem?_eq_some_iff.mp hz2).1
   have nD:D≠T':=zk hD2 hT
   refine⟨T',_,rfl,SqT.of zd,rfl,_,_,rfl,_,_,rfl,rfl,rfl,_,rfl,_,rfl,_,_,rfl,rfl,_,(by rw[zf nD];exact hD2),?_,fun c o hc=>?_,?_⟩
   ·rw[lmm]
    unfold zel
    rw[List.length_zipWith,List.length_take,List.length_take]
    exact zbe (by omega)
   ·rw[zf (zk hc hD),zf (zk (s2 _ _ hc) hT)];exact s2 _ _ hc
   ·rw[zd,Pr.zab hz2,Pr.zab hu2]
    unfold zel
    rw[List.zipWith_append (by rw[List.length_take,List.length_take,hl]),lMa];rfl
  ·rintro H' ⟨s2,hD2⟩
   rw[lmm,List.take_length,hl,List.take_length]at hD2
   exact k D H' s2 hD hD2
inductive zzN(K:Fg)(vs:List V)(H:Hp)(Q:VK)(E:XK):Prop|I:∀(p q:Addr) (r t:List Int),vs=[.ref p,.ref q]->SqL K H p (r.map V.int)->SqL K H q (t.map V.int)->r.length=t.length->r.length<=100->RowQ H (zbX r t) Q->zzN K vs H Q E
theorem zpC(T:Txt K mg A):zH P w K mg base CX0 41 A.zrE A.zpK ["row","other"] (zzN K):=by
 refine T.zjP.ok zlU (fun _ _ _ _ h=>?_) fun _ _ _ s H vs Q E hr h=>?_
 ·obtain⟨p,q,r,t,rfl,_⟩:=h
  rfl
 ·obtain⟨p,q,r,t,rfl,hp,hq,hl,hz,k⟩:=h
  refine⟨_,(zh (zo (zfR (g:=gTup K 2 (gCons (zgp 2) (gCons (zgp 3) gNil))) rfl zlU.nd (zm4 rfl T.zn1 (za (pv 0) (za (pv 1) zc))) (zbQ (own:=[("left",2),("right",3)]) (by rfl)) (fun _ _ _ _ _=>(zhI (n:=2) rfl (zbP (zag (i:=2) zlU.nd rfl (Or.inl rfl)) (zbP (zag (i:=3) zlU.nd rfl (Or.inl rfl)) zga)))) (fun _ _ _ _ _=>zcq) (fun _ _ _ _ _=>(zW zp1 (pv 2) (pv 3)))))),?_⟩
  refine⟨_,rfl,_,rfl,p,q,_,_,rfl,hp,hq,fun D hD=>?_⟩
  refine zuw (K:=K) (a:=p) (b:=q) (xs:=r.map V.int) (ys:=t.map V.int) (by rw[lmm,lmm,hl]) (fun i H'=>zq H H'/\H' D=some (.lst ((zbX (r.take i) (t.take i)).map V.int))) ⟨zl hD,zd⟩ (fun i H' _ ⟨s,_⟩=>⟨s.seq hp,s.seq hq⟩) ?_ ?_
  ·rintro i x y T' H' hx hy hT ⟨s2,hD2⟩
   obtain⟨z,hz2,rfl⟩:=zgC hx
   obtain⟨u,hu2,rfl⟩:=zgC hy
   have hlt:i<r.length:=(List.getElem?_eq_some_iff.mp hz2).1
   have nD:D≠T':=zk hD2 hT
   refine⟨T',_,rfl,SqT.of zd,rfl,_,_,rfl,_,_,rfl,rfl,rfl,_,rfl,_,rfl,_,_,rfl,rfl,_,(by rw[zf nD];exact hD2),?_,fun c o hc=>?_,?_⟩
   ·rw[lmm]
    unfold zbX
    rw[List.length_zipWith,List.length_take,List.length_take]
    exact zbe (by omega)
   ·rw[zf (zk hc hD),zf (zk (s2 _ _ hc) hT)];exact s2 _ _ hc
   ·rw[zd,Pr.zab hz2,Pr.zab hu2]
    unfold zbX
    rw[List.zipWith_append (by rw[List.length_take,List.length_take,hl]),lMa];rfl
  ·rintro H' ⟨s2,hD2⟩
   rw[lmm,List.take_length,hl,List.take_length]at hD2
   exact k D H' s2 hD hD2
def zbS(fs:Fac):List (Key×V):=fs.map fun p=>(Sum.inl p.1,V.int (p.2:Int))
theorem zsH(f:Int) :∀(fs:Fac),(valV (zbS fs) (Sum.inl f)).getD (V.int 0)=V.int (cntF fs f:Int)
 | []=>rfl
 | (g,c)::r=>by
  have e:zbS ((g,c)::r)=(Sum.inl g,V.int (c:Int))::zbS r:=rfl
  rw[e]
  unfold cntF
  by_cases h:g=f
  ·rw[if_pos h,zi6 (show((Sum.inl g,V.int (c:Int)):Key×V).1=Sum.inl f by rw[h])]
   rfl
  ·rw[if_neg h,zi7 (show ¬((Sum.inl g,V.int (c:Int)):Key×V).1=Sum.inl f from fun z=>h (Sum.inl.inj z))]
   exact zsH f r
theorem zzO{k:Key}{v v':V}{r:List (Key×V)}(h :∀p,p∈r->p.1≠k):zdB ((k,v')::r) k v=(k,v)::r:=by
 unfold zdB
 rw[if_pos (by simp)]
 rw[List.map_cons,if_pos rfl]
 congr 1
 have:r.map (fun kv=>if kv.1=k then(kv.1,v)else kv)=r.map id:=List.map_congr_left fun p hp=>if_neg (h p hp)
 rw[this,List.map_id]
theorem zzP{k k':Key}{v v':V}{r:List (Key×V)}(h:k'≠k):zdB ((k',v')::r) k v=(k',v')::zdB r k v:=by
 unfold zdB
 rw[List.any_cons,decide_eq_false (show ¬(k',v').1=k from h),Bool.false_or]
 split
 ·rw[List.map_cons,if_neg h]
 ·rfl
theorem zsI(f:Int) :∀(fs:Fac),(fs.map (·.1)).Nodup->zdB (zbS fs) (Sum.inl f) (V.int ((cntF fs f:Int)+1))=zbS (addF fs f)
 | [],_=>rfl
 | (g,c)::r,hn=>by
  have e:zbS ((g,c)::r)=(Sum.inl g,V.int (c:Int))::zbS r:=rfl
  rw[List.map_cons,List.nodup_cons]at hn
  rw[e]
  unfold cntF addF
  by_cases h:g=f
  ·subst h
   rw[if_pos rfl,if_pos rfl,zzO fun p hp=>?_]
   ·rfl
   ·intro z
    unfold zbS at hp
    rw[List.mem_map]at hp
    obtain⟨q,hq,rfl⟩:=hp
    exact hn.1 (List.mem_map.mpr ⟨q,hq,Sum.inl.inj z⟩)
  ·rw[if_neg h,if_neg h,zzP (fun z=>h (Sum.inl.inj z)),zsI f r hn.2]
   rfl
def zdv(S:Int)(d:Addr):List (Str×V):=zK "factors" (.ref d) (zK "whole" (.int S) [])
theorem zdi(S:Int)(d:Addr):(zdv S d).lookup ("whole" : Str)=some (V.int S):=by unfold zdv;simp only[zy];rfl
theorem zlh(S:Int)(d:Addr):(zdv S d).lookup ("factors" : Str)=some (V.ref d):=by unfold zdv;simp only[zy];rfl
theorem zc5(S:Int)(d:Addr){m:Str}(h1:m≠"whole":=by decide) (h2:m≠"factors":=by decide):(zdv S d).lookup m=none:=by unfold zdv;simp only[zy];rw[if_neg h2,if_neg h1];rfl
def zbz(C:Addr)(H:Hp)(sc:Addr)(S:Int)(n:Nat):Prop:=E3 fun(dx d:Addr)(fs:Fac)=>H sc=some (.ins C dx (zdv S d))/\H d=some (.dK (zbS fs))/\zfm fs S n
theorem zbz.same{C:Addr}{H H':Hp}{sc:Addr}{S:Int}{n:Nat}(h:zbz C H sc S n)(s:zq H H'):zbz C H' sc S n:=
 let⟨dx,d,fs,h1,h2,h3⟩:=h;⟨dx,d,fs,s _ _ h1,s _ _ h2,h3⟩
theorem zbz.mono{C:Addr}{H:Hp}{sc:Addr}{S:Int}{n m:Nat}(h:zbz C H sc S n)(hm:n<=m):zbz C H sc S m:=
 let⟨dx,d,fs,h1,h2,h3⟩:=h;⟨dx,d,fs,h1,h2,h3.mono hm⟩
theorem zbz.pos{C:Addr}{H:Hp}{sc:Addr}{S:Int}{n:Nat}(h:zbz C H sc S n):0<S:=let⟨_,_,_,_,_,h3⟩:=h;h3.posS
theorem zbz.keep{C:Addr}{H H':Hp}{sc:Addr}{S:Int}{n:Nat}(h:zbz C H sc S n)(k1 :∀a c dx fs,H a=some (.ins c dx fs)->H' a=some (.ins c dx fs))(k2 :∀a kvs,H a=some (.dK kvs)->H' a=some (.dK kvs)):zbz C H' sc S n:=
 let⟨dx,d,fs,h1,h2,h3⟩:=h;⟨dx,d,fs,k1 _ _ _ _ h1,k2 _ _ h2,h3⟩
inductive zmG(C:Addr)(vs:List V)(H:Hp)(Q:VK)(E:XK):Prop|I:∀(x dx:Addr) (S:Int) (d:Addr),vs=[.ref x,.int S,.ref d]->H x=some (.ins C dx [])->Q .non (upd H x (.ins C dx (zdv S d)))->zmG C vs H Q E
theorem zmH(T:Txt K mg A):zH P w K mg base CX0 41 A.zjw A.zii ["self","whole","factors"] (zmG A.zU):=by
 refine T.zmL.ok zsW (fun _ _ _ _ h=>?_) fun _ _ _ s H vs Q E hr h=>?_
 ·obtain⟨x,dx,S,d,rfl,_⟩:=h
  rfl
 ·obtain⟨x,dx,S,d,rfl,hx,k⟩:=h
  refine zQa (zaX (pv 0) (pv 1) rfl) (zQl (zh (zaX (pv 0) (pv 2) rfl)) ?_);intros
  refine⟨_,rfl,_,rfl,x,_,dx,_,rfl,hx,T.zbt,T.zdd,(by show 0<1000;decide),?_⟩
  refine⟨_,rfl,_,rfl,x,_,dx,_,rfl,zd,T.zbt,T.zf8,(by show 1<1000;decide),?_⟩
  rw[zaS]
  exact k
def ScaleQ(C:Addr)(H:Hp)(S:Int)(n:Nat)(Q:VK):Prop:=∀(sc:Addr) (H':Hp),zq H H'->H sc=none->zbz C H' sc S n->Q (.ref sc) H'
theorem zxA{C:Addr}{H:Hp}{S:Int}{d:Addr}{fs:Fac}{n:Nat}{x dx:Addr}{Q:VK}(hd:H d=some (.dK (zbS fs)))(F:zfm fs S n)(hx:H x=none)(hdx:H dx=none)
  (k :∀H',zq H H'->zbz C H' x S n->Q (.ref x) H') :
  zmG C [.ref x,.int S,.ref d] (upd (upd H dx (.own x)) x (.ins C dx [])) (fun v H2=>v=.non/\Q (.ref x) H2) E0:=by
 refine⟨x,dx,S,d,rfl,zd,rfl,?_⟩
 rw[zaS]
 have s:zq H (upd (upd H dx (.own x)) x (.ins C dx (zdv S d))):=fun b o hb=>by rw[zf (zk hb hx),zf (zk hb hdx)];exact hb
 exact k _ s ⟨dx,d,fs,zd,s _ _ hd,F⟩
inductive znA(C:Addr)(vs:List V)(H:Hp)(Q:VK)(E:XK):Prop|I:∀(sc:Addr) (S f:Int) (n:Nat),vs=[.ref sc,.int f]->zbz C H sc S n->0<f->n<=1000->bI S<=60000000->bI f<=60000000->ScaleQ C H (S*f) (n+1) Q->znA C vs H Q E
theorem zdw(T:Txt K mg A):zH P w K mg base CX0 43 A.zfv A.ze5 ["self","factor"] (znA A.zU):=by
 have zjZ:=@zmH P w K mg base A T
 refine T.zh3.ok zhT (fun _ _ _ _ h=>?_) fun _ _ _ s H vs Q E hr h=>?_
 ·obtain⟨sc,S,f,n,rfl,_⟩:=h
  rfl
 ·obtain⟨sc,S,f,n,rfl,hS,hf,hn,z1,z2,k⟩:=h
  refine zQa (qD 2 zhT.nd (zgb zxj (by rfl) T.zBl boot_dict (za (zg (pv 0) rfl) zc))) (zQc (zAw (zAi hr) (pv 2) (pv 1) (zW zb7 (zzn (zAi hr) (pv 2) (pv 1) zi ⟨rfl,rfl,rfl,rfl⟩) zi) rfl) (zQl (zh (zo (zc8 T.zu5 zjZ hr rfl T.zuY T.zn3 .nil zj (za (zW za2 (zg (pv 0) rfl) (pv 1)) (za (pv 2) zc))))) ?_));intros
  obtain⟨dx,d,fs,hsc,hd,F⟩:=hS
  refine⟨_,rfl,sc,_,dx,_,_,rfl,hsc,T.zbt,T.zf8,zlh _ _,d,_,rfl,hd,fun e he=>?_⟩
  have s1:zq H (upd H e (.dK (zbS fs))):=zl he
  have eP:=zsI f fs F.nd
  refine⟨_,rfl,e,rfl,.inl ⟨_,.inl zd⟩,_,rfl,_,DGet.k (k:=Sum.inl f) zd,_,_,zsH f fs,rfl,_,rfl,_,rfl,e,_,rfl,DPut.k (k:=Sum.inl f) zd ?_,?_⟩
  ·unfold zbS
   rw[lmm]
   exact zbe (by have:=F.len;omega)
  dsimp only
  rw[eP,zaS]
  have s2:zq H (upd H e (.dK (zbS (addF fs f)))):=zl he
  refine⟨_,rfl,sc,_,dx,_,_,rfl,s2 _ _ hsc,T.zbt,T.zdd,zdi _ _,_,rfl,_,_,rfl,rfl,zcU z1 z2,_,rfl,?_⟩
  intro x dx' hx hdx hne
  refine zxA zd (F.add hf) hx hdx fun H' s3 S'=>?_
  exact k x H' (s2.trans s3) (s2.free hx) S'
def QtQ(H:Hp)(q:Rat)(Q:VK):Prop:=∀(p:Addr) (H':Hp),zq H H'->H p=none->H' p=some (qT q)->Q (.ref p) H'
inductive zqC(C:Addr)(vs:List V)(H:Hp)(Q:VK)(E:XK):Prop|I:∀(sc:Addr) (S x:Int) (n:Nat),vs=[.ref sc,.int x]->zbz C H sc S n->n<=1000->bI S<=60000000->QtQ H (zn S x) Q->zqC C vs H Q E
theorem zzQ(fs:Fac)(i:Nat):zbG (fs.take i)∣zbG fs:=by
 conv=>rhs;rw[<-List.take_append_drop i fs,zng]
 exact Int.dvd_mul_right _ _
theorem zcb(B:Bs P base)(T:Txt K mg A):zH P w K mg base CX0 42 A.zeq A.zd7 ["self","number"] (zqC A.zU):=by
 have zdl:=@zfs P w K mg base A T
 refine T.zgn.ok zaM (fun vs H Q E h=>?_) (fun cdv A' outer s H vs Q E hr h=>?_)
 ·obtain⟨sc,S,x,n,rfl,_⟩:=h
  rfl
 ·obtain⟨sc,S,x,n,rfl,⟨dx,d,fs,hsc,hd,F⟩,hn,z1,k⟩:=h
  have B:=znu (w:=w) (K:=K) (mg:=mg) (outer:=outer) (H:=H) (E:=E) zaM B hr (by decide)
  refine zQa (qD 2 zaM.nd zi) (zQc (zAz (zde PassesOwn.never rfl (zzq (zg (pv 0) rfl)) (zhI (n:=2) rfl (zbP (zag (i:=3) zaM.nd rfl (Or.inl rfl)) (zbP (zag (i:=4) zaM.nd rfl (Or.inl rfl)) zga))) (zh (zde PassesOwn.never rfl (zc3 rfl T.zcW (za (pv 4) zc)) (zag (i:=5) zaM.nd rfl (Or.inl rfl)) (ze (qD 6 zaM.nd (zw zdl hr rfl T.zfE T.zcZ.kp T.zf9 .nil zj (za (pv 1) (za (pv 3) zc))))
   (ze (zY (z5 zb0 (pv 6) zi (nomark _)) (zh zzf) zJ)
   (ze (ztG (i:=1) zaM.nd rfl (Or.inl rfl) (pv 6) (zzz B))
   (zh (ztG (i:=2) zaM.nd rfl (Or.inl rfl) (pv 6) zAI))))))))) (zQl (zh (zo (zmZ (za (pv 1) (za (zW (zlN B) (zg (pv 0) rfl) (pv 2)) zc))))) ?_));intros
  have nsd:sc≠d:=zI hsc hd (by intro z;cases z)
  refine⟨d,.dK (zbS fs),hd,trivial,fun od=>?_⟩
  refine⟨_,rfl,sc,_,dx,_,_,rfl,(by rw[zf nsd];exact hsc),T.zbt,T.zf8,zlh _ _,d,od,_,rfl,zd,?_⟩
  refine zyv (d:=d) (o:=od) (kvs:=zbS fs) (fun i σ H1=>∃(y t:Int) (v3 v4 v5 v6:Option V),σ = [some (.ref sc),some (.int y),some (.int t),v3,v4,v5,v6]/\Low x (zbG (fs.take i)) y t/\zq (upd H d (.frz od (.dK (zbS fs)))) H1)
   ⟨x,1,none,none,none,none,rfl,Low.start x,zq.refl _⟩ (fun i σ H1 _ ⟨_,_,_,_,_,_,_,_,s⟩=>s _ _ zd) ?_ ?_
  ·rintro i key v T' σ H1 hkv hT ⟨y,t,v3,v4,v5,v6,rfl,low,s1⟩
   obtain⟨⟨f,c⟩,hfc,e1⟩ :∃p,fs[i]? = some p/\(Sum.inl p.1,V.int (p.2:Int))=(key,v):=by
    unfold zbS at hkv
    rw[gEm]at hkv
    cases e2:fs[i]? with
    | none=>rw[e2]at hkv;cases hkv
    | some p=>rw[e2]at hkv;exact⟨p,rfl,oSi hkv⟩
   cases e1
   have hm:=mge hfc
   have hf:0<f:=F.pos _ hm
   have hc:c<=n:=F.cnt _ hm
   have hS:=F.posS
   have hdv:zbG (fs.take i)*f ^ c∣S:=by rw[<-zpy hfc,<-F.prod];exact zzQ fs (i+1)
   refine⟨T',_,rfl,SqT.of zd,rfl,_,_,rfl,_,_,rfl,rfl,?_⟩
   refine⟨_,rfl,(c:Int),rfl,by omega,by omega,?_⟩
   rw[Int.toNat_natCast]
   refine zhJ (n:=c) (fun j σ H2=>∃(y t:Int) (v5 v6:Option V),σ = [some (.ref sc),some (.int y),some (.int t),some (.int f),some (.int (c:Int)),v5,v6]/\Low x (zbG (fs.take i)*f ^ j) y t/\zq (upd H d (.frz od (.dK (zbS fs)))) H2)
    ⟨y,t,v5,v6,rfl,by rw[Int.pow_zero,Int.mul_one];exact low,s1.trans (zl hT)⟩ ?_ ?_
   ·rintro j σ H2 hj ⟨y,t,v5,v6,rfl,low,s2⟩
    refine⟨_,rfl,_,rfl,y,f,rfl,by omega,?_⟩
    rw[zuq hf]
    refine⟨_,rfl,rfl,_,rfl,?_⟩
    by_cases e:Int.gcd y f=1
    ·rw[show decide (V.int ((Int.gcd y f:Nat):Int)=V.int 1)=true from decide_eq_true (by rw[e];rfl)]
     refine zaY ?_
     refine⟨y,t,_,_,_,_,rfl,?_,s2⟩
     have l2:=low.skip hf e (c-j)
     rw[Int.mul_assoc,<-Int.pow_add,show j+(c-j)=c by omega]at l2
     rw[zpy hfc]
     exact l2
    ·rw[show decide (V.int ((Int.gcd y f:Nat):Int)=V.int 1)=false from decide_eq_false (fun z=>e (by have:=V.int.inj z;omega))]
     refine zaT ?_
     have hg:=ziZ (n:=y) hf
     obtain⟨d1,d2,_,_⟩:=low.done
     have hpw:zbG (fs.take i)*f ^ c=zbG (fs.take i)*f ^ j*f ^ (c-j):=by rw[Int.mul_assoc,<-Int.pow_add,show j+(c-j)=c by omega]
     have hD:zbG (fs.take i)*f ^ j<=S:=Int.le_of_dvd hS (Int.dvd_trans (by rw[hpw];exact Int.dvd_mul_right _ _) hdv)
     have hfS:f<=S:=by
      refine Int.le_of_dvd hS (Int.dvd_trans ?_ hdv)
      rw[show c=(c-1)+1 by omega,Int.pow_succ,<-Int.mul_assoc]
      exact Int.dvd_mul_left _ _
     have hgf:((Int.gcd y f:Nat):Int)<=f:=Int.le_of_dvd hf (Int.gcd_dvd_right y f)
     refine⟨_,rfl,_,rfl,_,_,rfl,rfl,hg,?_⟩
     refine⟨_,rfl,_,rfl,_,_,rfl,rfl,zcU (nLt (zwS (by omega) (by omega)) z1) (nLt (zwS (by omega) (by omega)) z1),?_⟩
     refine⟨_,_,_,_,rfl,?_,s2⟩
     have l2:=low.turn hf
     rw[Int.pow_succ,<-Int.mul_assoc]
     exact l2
   ·rintro σ H2 ⟨y,t,v5,v6,rfl,low,s2⟩
    exact⟨y,t,_,_,_,_,rfl,by rw[zpy hfc];exact low,s2⟩
  ·rintro σ H1 ⟨y,t,v3,v4,v5,v6,rfl,low,s1⟩
   rw[tOl (by unfold zbS;rw[lmm];exact nLr _),F.prod]at low
   obtain⟨d1,d2,d3,d4⟩:=low.done
   have s2:zq H (upd H1 d (.dK (zbS fs))):=fun b o hb=>by
    by_cases e:b=d
    ·subst e;rw[zd,<-hd,hb]
    ·rw[zf e];exact s1 _ _ (by rw[zf e];exact hb)
   refine⟨s1 _ _ zd,?_⟩
   refine⟨_,rfl,_,rfl,sc,_,dx,_,_,rfl,s2 _ _ hsc,T.zbt,T.zdd,zdi _ _,_,rfl,_,_,rfl,rfl,d1,szl2,fun p hp=>?_⟩
   refine k p _ (s2.trans (zl hp)) (s2.free hp) ?_
   rw[zd]
   unfold qT
   rw[<-d3,<-d4]
inductive zpa(C:Addr)(vs:List V)(H:Hp)(Q:VK)(E:XK):Prop|I:∀(sc:Addr) (S x:Int) (n most:Nat),vs=[.ref sc,.int x,.int (most:Int)]->zbz C H sc S n->n<=1000->bI S<=60000000->(∀H',zq H H'->Q (.bl (decide (most<Sp.wt (zn S x)))) H')->zpa C vs H Q E
theorem zow(B:Bs P base)(T:Txt K mg A):zH P w K mg base CX0 43 A.zf3 A.zfw ["self","number","most"] (zpa A.zU):=by
 have zhv:=(@znv P w K mg base A T).up 42
 have zaW:=zcb (w:=w) B T
 refine T.ziM.ok zos (fun _ _ _ _ h=>?_) fun _ _ _ s H vs Q E hr h=>?_
 ·obtain⟨sc,S,x,n,most,rfl,_⟩:=h
  rfl
 ·obtain⟨sc,S,x,n,most,rfl,hS,hn,z1,k⟩:=h
  refine zQa (zY (z5 zds (zw zhv hr rfl T.zkb T.zgm.kp T.zmp .nil zj (za (zmZ (za (pv 1) (za (zg (pv 0) rfl) zc))) zc)) (pv 2) (nomark _)) (zh (zo zeO)) zJ) (zQl (zh (zo (zq2 zlI (zw zhv hr rfl T.zkb T.zgm.kp T.zmp .nil zj (za (zp (pv 0) T.zbt T.zcf zaW hr T.zcp .nil zj (za (pv 1) zc)) zc)) (pv 2) (nomark _)))) ?_);intros
  have hpos:=hS.pos
  obtain⟨dx,d,fs,hsc,hd,F⟩:=id hS
  refine⟨_,rfl,_,rfl,sc,_,dx,_,_,rfl,hsc,T.zbt,T.zdd,zdi _ _,szl2,fun p hp=>?_⟩
  refine⟨p,x,S,rfl,SqT.of zd,_,rfl,_,_,rfl,rfl,_,rfl,?_⟩
  have s1:zq H (upd H p (.tup [.int x,.int S])):=zl hp
  refine zaZ (fun e=>?_) (fun e=>?_)
  ·have e1:bI x+bI S<=most:=by
    have:=oDt e
    omega
   have e2:=zdE hpos x
   have e3:decide (most<Sp.wt (zn S x))=false:=decide_eq_false (by
    have:Sp.wt (zn S x)<=bI x+bI S:=e2
    omega)
   rw[e3]at k
   exact k _ s1
  ·refine⟨_,rfl,sc,dx,_,rfl,s1 _ _ hsc,zc5 _ _,_,rfl,sc,S,x,n,rfl,hS.same s1,hn,z1,fun q H2 s2 hq hq2=>?_⟩
   refine⟨q,_,_,rfl,SqT.of hq2,_,rfl,_,_,rfl,rfl,?_⟩
   have k2:=k _ (s1.trans s2)
   rw[zeS]at k2
   dsimp only
   have e4:decide ((most:Int)<((bI (zn S x).num+bI ((zn S x).den:Int):Nat):Int))=decide (most<bI (zn S x).num+bI ((zn S x).den:Int)):=by
    rw[decide_eq_decide]
    omega
   rw[e4]
   exact k2
theorem zpD(k:Nat)(x:V):(List.replicate k [x]).flatten=List.replicate k x:=by
 induction k with
 | zero=>rfl
 | succ k ih=>
  rw[List.replicate_succ,List.flatten_cons,ih]
  rfl
theorem zd1{l:List Int}{i:Nat}(h:i<l.length):l[i]? = some (gI l i):=by
 unfold gI
 rw[gDm,gge h]
 rfl
theorem zgh{n i:Nat}(h:i<n):ixN n (i:Int)=some i:=by
 unfold ixN
 rw[if_pos (by omega),if_pos (by omega)]
 congr 1
theorem _root_.L2.zq.seqT{K:Fg}{H H':Hp}{a:Addr}{xs:List V}(e:zq H H')(h:SqT K H a xs):SqT K H' a xs:=by
 rcases h with(h|⟨o,h⟩)|h
 ·exact .inl (.inl (e _ _ h))
 ·exact .inl (.inr ⟨o,e _ _ h⟩)
 ·exact .inr h
inductive zxB(K:Fg)(vs:List V)(H:Hp)(Q:VK)(E:XK):Prop|I:∀(q:Addr) (row:List Int) (p:Nat) (r:Addr) (n d:Int),vs=[.ref q,.int (p:Int),.ref r]->SqL K H q (row.map V.int)->SqT K H r [.int n,.int d]->0<row.length->(1<row.length->p+1<row.length)->row.length<=50->zaU 20000000 row->bI n<=20000000->bI d<=20000000->RowQ H (za9 row p n d) Q->zxB K vs H Q E
theorem zlX(T:Txt K mg A):zH P w K mg base CX0 42 A.znJ A.zl6 ["row","p","ratio"] (zxB K):=by
 have zlC:=@zpB P w K mg base A T
 have zdA:=@zgB P w K mg base A T
 refine T.zgT.ok zqv (fun _ _ _ _ h=>?_) fun _ _ _ s H vs Q E hr h=>?_
 ·obtain⟨q,row,p,r,n,d,rfl,_⟩:=h
  rfl
 ·obtain⟨q,row,p,r,n,d,rfl,hq,hr1,h00,hp,hz,hsz,hn,hd,k⟩:=h
  refine zQa (qD 3 zqv.nd (zw zlC hr rfl T.zpN T.zjO.kp T.zrV .nil zj (za (pv 0) (za (zu z6 (pv 2) zi (fun _ _=>rfl)) zc)))) (zQc (zY (z5 zlI (zaN zaC (by rfl) T.zcw PySem.boot_len (za (pv 0) zc)) zi (nomark _)) (zh (zww (pv 3) (zW zb7 zi (pv 1)) ztW (zW za2 (zW za2 (zu zA (pv 0) zi (fun _ _=>rfl)) (zu z6 (pv 2) zi (fun _ _=>rfl))) (zw zdA hr rfl T.zgR T.zes.kp T.zh7 .nil zj (za (pv 2) zc))) zx8 zeV)) zJ) (zQl (zh (zo (pv 3))) ?_));intros
  have b2:bI (gI row 0*d)<=40000000:=by have:=zbc (gI row 0) d;have:=hsz.get 0;omega
  have b3:=zfK n
  refine⟨_,rfl,_,rfl,r,_,_,_,rfl,rfl,hr1,rfl,q,row,n,rfl,hq,by omega,hsz.mono (by decide),by omega,fun l H1 s1 hl hl1=>?_⟩
  refine⟨_,rfl,q,_,rfl,.inl (s1.seq hq),_,_,rfl,rfl,_,rfl,?_⟩
  rw[lmm]
  refine zaZ (fun e=>?_) (fun e=>?_)
  ·have e1:1<row.length:=by have:=oDt e;omega
   have h0:(row.map V.int)[0]? = some (V.int (gI row 0)):=zbh (zd1 (by omega))
   have ht:p+1<(za1 n row).length:=by unfold za1;rw[lmm];exact hp e1
   refine⟨_,rfl,_,rfl,_,_,rfl,rfl,l,_,p+1,_,rfl,congrArg V.int (by omega),SqL.of hl1,zbh (zd1 ht),_,rfl,q,_,_,_,rfl,rfl,s1.seq hq,zb8 h0,_,rfl,r,_,_,_,rfl,rfl,s1.seqT hr1,rfl,_,_,rfl,rfl,zcU (nLt (hsz.get 0) (by decide)) (by omega),
    _,rfl,r,n,d,rfl,s1.seqT hr1,_,_,rfl,rfl,zcU (by omega) (by omega),_,_,rfl,rfl,l,_,1+(p:Int),p+1,rfl,rfl,hl1,?_,?_⟩
   ·rw[show(1+(p:Int))=((p+1:Nat):Int) by omega]
    exact zgh (by rw[lmm];exact ht)
   refine⟨_,rfl,k l _ (fun c o hc=>by rw[zf (zk hc hl)];exact s1 _ _ hc) hl ?_⟩
   rw[zd]
   unfold za9 zfJ
   rw[if_pos e1,List.map_set]
  ·have e1:¬1<row.length:=fun z=>e (decide_eq_true (by omega))
   refine⟨_,rfl,k l _ s1 hl ?_⟩
   unfold za9
   rw[if_neg e1]
   exact hl1
inductive zvQ(K:Fg)(vs:List V)(H:Hp)(Q:VK)(E:XK):Prop|I:∀(q:Addr) (row:List Int) (p:Nat) (r:Addr) (n d:Int),vs=[.ref q,.int (p:Int),.ref r]->SqL K H q (row.map V.int)->SqT K H r [.int n,.int d]->0<row.length->(1<row.length->p+1<row.length)->row.length<=50->zaU 20000000 row->bI d<=20000000->RowQ H (zeP row p n d) Q->zvQ K vs H Q E
theorem zvR(T:Txt K mg A):zH P w K mg base CX0 42 A.zl7 A.zkC ["row","p","ratio"] (zvQ K):=by
 have zlC:=@zpB P w K mg base A T
 refine T.zkS.ok zo2 (fun _ _ _ _ h=>?_) fun _ _ _ s H vs Q E hr h=>?_
 ·obtain⟨q,row,p,r,n,d,rfl,_⟩:=h
  rfl
 ·obtain⟨q,row,p,r,n,d,rfl,hq,hr1,h00,hp,hz,hsz,hd,k⟩:=h
  refine zQa (qD 3 zo2.nd (zw zlC hr rfl T.zpN T.zjO.kp T.zrV .nil zj (za (pv 0) (za (zlF (z5 zgq (zu z6 (pv 2) zi (fun _ _=>rfl)) zi (nomark _)) (zAe zyb (zu z6 (pv 2) zi (fun _ _=>rfl))) (zu z6 (pv 2) zi (fun _ _=>rfl))) zc)))) (zQc (zY (z5 zlI (zaN zaC (by rfl) T.zcw PySem.boot_len (za (pv 0) zc)) zi (nomark _)) (zh (zww (pv 3) (zW zb7 zi (pv 1)) ztW (zW za2 (zW za2 (zu zA (pv 0) zi (fun _ _=>rfl)) (zu z6 (pv 2) zi (fun _ _=>rfl))) (zu z6 (pv 2) zi (fun _ _=>rfl))) zBu zeV)) zJ) (zQl (zh (zo (pv 3))) ?_));intros
  have b2:bI (gI row 0*d)<=40000000:=by have:=zbc (gI row 0) d;have:=hsz.get 0;omega
  have bs:=zyH n d
  refine⟨_,rfl,_,rfl,r,_,_,_,rfl,rfl,hr1,rfl,_,_,rfl,rfl,_,rfl,?_⟩
  refine zaZ (fun e0=>?pos) (fun e0=>?neg)
  case' pos=>
   have e1:n<0:=oDt e0
   refine⟨_,rfl,r,_,_,_,rfl,rfl,hr1,rfl,_,rfl,q,row,-d,rfl,hq,by omega,hsz.mono (by decide),by rw[zje];omega,?_⟩
   rw[show za1 (-d) row=za1 (sgnD n d) row by rw[show sgnD n d = -d from if_pos e1]]
  case' neg=>
   have e1:¬n<0:=fun z=>e0 (decide_eq_true z)
   refine⟨_,rfl,r,_,_,_,rfl,rfl,hr1,rfl,q,row,d,rfl,hq,by omega,hsz.mono (by decide),by omega,?_⟩
   rw[show za1 d row=za1 (sgnD n d) row by rw[show sgnD n d=d from if_neg e1]]
  all_goals
   intro l H1 s1 hl hl1
   refine⟨_,rfl,q,_,rfl,.inl (s1.seq hq),_,_,rfl,rfl,_,rfl,?_⟩
   rw[lmm]
   refine zaZ (fun e=>?_) (fun e=>?_)
   ·have e1:1<row.length:=by have:=oDt e;omega
    have h0:(row.map V.int)[0]? = some (V.int (gI row 0)):=zbh (zd1 (by omega))
    have ht:p+1<(za1 (sgnD n d) row).length:=by unfold za1;rw[lmm];exact hp e1
    refine⟨_,rfl,_,rfl,_,_,rfl,rfl,l,_,p+1,_,rfl,congrArg V.int (by omega),SqL.of hl1,zbh (zd1 ht),_,rfl,q,_,_,_,rfl,rfl,s1.seq hq,zb8 h0,_,rfl,r,_,_,_,rfl,rfl,s1.seqT hr1,rfl,_,_,rfl,rfl,zcU (nLt (hsz.get 0) (by decide)) (by omega),
     _,rfl,r,_,_,_,rfl,rfl,s1.seqT hr1,rfl,_,_,rfl,rfl,zcU (by omega) (by omega),_,_,rfl,rfl,l,_,1+(p:Int),p+1,rfl,rfl,hl1,?_,?_⟩
    ·rw[show(1+(p:Int))=((p+1:Nat):Int) by omega]
     exact zgh (by rw[lmm];exact ht)
    refine⟨_,rfl,k l _ (fun c o hc=>by rw[zf (zk hc hl)];exact s1 _ _ hc) hl ?_⟩
    rw[zd]
    unfold zeP zfJ
    rw[if_pos e1,List.map_set,<-Int.sub_eq_add_neg]
   ·have e1:¬1<row.length:=fun z=>e (decide_eq_true (by omega))
    refine⟨_,rfl,k l _ s1 hl ?_⟩
    unfold zeP
    rw[if_neg e1]
    exact hl1
structure SC where
 c:Addr
 s:Addr
 rt:Addr
 m:Nat
def zcc(t c r l:Addr):List (Str×V):=zK "lines" (.ref l) (zK "rows" (.ref r) (zK "scale" (.ref c) (zK "ratios" (.ref t) [])))
section
variable (t c r l:Addr)
theorem zcV:(zcc t c r l).lookup ("ratios" : Str)=some (V.ref t):=by unfold zcc;simp only[zy];rfl
theorem zbI:(zcc t c r l).lookup ("scale" : Str)=some (V.ref c):=by unfold zcc;simp only[zy];rfl
theorem zap:(zcc t c r l).lookup ("rows" : Str)=some (V.ref r):=by unfold zcc;simp only[zy];rfl
theorem zgD:(zcc t c r l).lookup ("lines" : Str)=some (V.ref l):=by unfold zcc;simp only[zy];rfl
theorem zbJ{m:Str}(h1:m≠"lines":=by decide) (h2:m≠"rows":=by decide) (h3:m≠"scale":=by decide) (h4:m≠"ratios":=by decide):(zcc t c r l).lookup m=none:=by unfold zcc;simp only[zy];rw[if_neg h1,if_neg h2,if_neg h3,if_neg h4];rfl
end
def zal(H:Hp)(as:List Addr)(rows:List (List Int)):Prop:=Paired (fun a row=>H a=some (.lst (row.map V.int))/\0<row.length) as rows
theorem zal.same{H H':Hp}(s:zq H H') :∀{as:List Addr} {rows:List (List Int)},zal H as rows->zal H' as rows
 | _,_,.nil=>.nil
 | _,_,.cons h t=>.cons ⟨s _ _ h.1,h.2⟩ (zal.same s t)
theorem zal.length{H:Hp} :∀{as:List Addr} {rows:List (List Int)},zal H as rows->as.length=rows.length
 | _,_,.nil=>rfl
 | _,_,.cons _ t=>by rw[List.length_cons,List.length_cons,zal.length t]
theorem zal.snoc{H:Hp}{a:Addr}{row:List Int}(h:H a=some (.lst (row.map V.int)))(h0:0<row.length) :∀{as:List Addr} {rows:List (List Int)},zal H as rows->zal H (as++[a]) (rows++[row])
 | _,_,.nil=>.cons ⟨h,h0⟩ .nil
 | _,_,.cons g t=>.cons g (zal.snoc h h0 t)
theorem zal.get{H:Hp} :∀{as:List Addr} {rows:List (List Int)} {i:Nat} {a:Addr},zal H as rows->as[i]? = some a->∃row,rows[i]? = some row/\H a=some (.lst (row.map V.int))/\0<row.length
 | _,_,_,_,.nil,e=>by simp at e
 | _,_,0,_,.cons g _,e=>by simp at e;subst e;exact⟨_,rfl,g⟩
 | _,_,i+1,_,.cons _ t,e=>by
  obtain⟨q,h1,h2⟩:=zal.get (i:=i) t (by simpa using e)
  exact⟨q,by simpa using h1,h2⟩
theorem zal.set{H:Hp}{a:Addr}{row:List Int}(h:H a=some (.lst (row.map V.int)))(h0:0<row.length) :∀{as:List Addr} {rows:List (List Int)} (i:Nat),zal H as rows->zal H (as.set i a) (rows.set i row)
 | _,_,_,.nil=>.nil
 | _,_,0,.cons _ t=>.cons ⟨h,h0⟩ t
 | _,_,i+1,.cons g t=>.cons g (zal.set h h0 i t)
theorem zal.mono{H H':Hp} :∀{as:List Addr} {rows:List (List Int)},zal H as rows->(∀a o,a∈as->H a=some o->H' a=some o)->zal H' as rows
 | _,_,.nil,_=>.nil
 | _,_,.cons h t,f=>.cons ⟨f _ _ lMs h.1,h.2⟩ (zal.mono t fun a o ha=>f a o (lMc _ ha))
theorem zal.mem{H:Hp}{as:List Addr}{rows:List (List Int)}(h:zal H as rows){a:Addr}(ha:a∈as) :∃row,row∈rows/\H a=some (.lst (row.map V.int))/\0<row.length:=by
 obtain⟨i,hi⟩:=List.getElem?_of_mem ha
 obtain⟨row,h1,h2⟩:=h.get hi
 exact⟨row,mge h1,h2⟩
theorem ze1{row:List Int}{as:List Addr}(h:0<row.length):HO.lst (row.map V.int)≠HO.lst (as.map V.ref):=by
 intro e
 have e2:=HO.lst.inj e
 cases row with
 | nil=>simp at h
 | cons x r=>
  cases as with
  | nil=>simp at e2
  | cons a as=>simp at e2
theorem zal.upd_refs{H:Hp}{l:Addr}{xs:List Addr}{o:HO}(h:H l=some (.lst (xs.map V.ref))){as:List Addr}{rows:List (List Int)}(R:zal H as rows):zal (upd H l o) as rows:=
 R.mono fun a o ha he=>by
  obtain⟨row,_,h1,h2⟩:=R.mem ha
  rw[zf (zI h1 h (ze1 h2))]
  exact he
structure zae(C:SC)(H:Hp)(p r l:Addr)(as:List Addr)(sh:Sh)(lines:List Int):Prop where
 ins :∃dx c,H p=some (.ins C.c dx (zcc C.rt c r l))/\zbz C.s H c sh.1 C.m
 rows:H r=some (.lst (as.map V.ref))
 row:zal H as sh.2
 lin:H l=some (.lst (lines.map V.int))
 sep:l∉as
theorem zae.same{C:SC}{H H':Hp}{p r l:Addr}{as:List Addr}{sh:Sh}{lines:List Int}(S:zae C H p r l as sh lines)(s:zq H H'):zae C H' p r l as sh lines:=
 ⟨let⟨dx,c,h,h2⟩:=S.ins;⟨dx,c,s _ _ h,h2.same s⟩,s _ _ S.rows,S.row.same s,s _ _ S.lin,S.sep⟩
theorem zae.len{C:SC}{H:Hp}{p r l:Addr}{as:List Addr}{sh:Sh}{lines:List Int}(S:zae C H p r l as sh lines):as.length=sh.2.length:=S.row.length
theorem zae.at_{C:SC}{H:Hp}{p r l:Addr}{as:List Addr}{sh:Sh}{lines:List Int}(S:zae C H p r l as sh lines){a:Nat}(ha:a<sh.2.length) :∃c,as[a]? = some c/\c∈as/\H c=some (.lst ((zD sh.2 a).map V.int))/\0<(zD sh.2 a).length:=by
 have hl:=S.len
 obtain⟨c,hc⟩ :∃c,as[a]? = some c:=⟨_,gge (by omega)⟩
 obtain⟨row,h1,h2,h3⟩:=S.row.get hc
 have e:zD sh.2 a=row:=by
  unfold zD
  rw[gDm,h1]
  rfl
 rw[e]
 exact⟨c,hc,mge hc,h2,h3⟩
inductive zmI(C:Addr)(vs:List V)(H:Hp)(Q:VK)(E:XK):Prop|I:∀(x dx t c r:Addr),vs=[.ref x,.ref t,.ref c,.ref r]->H x=some (.ins C dx [])->(∀(l:Addr) (H':Hp),H l=none->H' x=some (.ins C dx (zcc t c r l))->H' l=some (.lst [])->(∀b o,H b=some o->b≠x->H' b=some o)->Q .non H')->zmI C vs H Q E
theorem zmJ(T:Txt K mg A):zH P w K mg base CX0 41 A.zjx A.zij ["self","ratios","scale","rows"] (zmI A.zR):=by
 refine T.zmM.ok zsX (fun _ _ _ _ h=>?_) fun _ _ _ s H vs Q E hr h=>?_
 ·obtain⟨x,dx,t,c,r,rfl,_⟩:=h
  rfl
 ·obtain⟨x,dx,t,c,r,rfl,hx,k⟩:=h
  refine zQa (zaX (pv 0) (pv 1) rfl) (zQc (zaX (pv 0) (pv 2) rfl) (zQc (zaX (pv 0) (pv 3) rfl) (zQl (zh (zaX (pv 0) (zL zc) rfl)) ?_)));intros
  refine⟨_,rfl,_,rfl,x,_,dx,_,rfl,hx,T.zz,T.zbU,(by show 0<1000;decide),?_⟩
  refine⟨_,rfl,_,rfl,x,_,dx,_,rfl,zd,T.zz,T.zbi,(by show 1<1000;decide),?_⟩
  refine⟨_,rfl,_,rfl,x,_,dx,_,rfl,zd,T.zz,T.z7,(by show 2<1000;decide),?_⟩
  refine⟨Nat.zero_le _,fun l hl=>?_⟩
  rw[zaS,zaS]at hl⊢
  have nx:x≠l:=fun z=>by rw[<-z,zd]at hl;cases hl
  have nl:l≠x:=fun z=>nx z.symm
  have hlH:H l=none:=by rw[zf nl]at hl;exact hl
  refine⟨_,rfl,x,_,dx,_,rfl,(by rw[zf nx,zd]),T.zz,T.zed,(by show 3<1000;decide),?_⟩
  refine k l _ hlH zd (by rw[zf nl,zd]) fun b o hb hbx=>?_
  rw[zf hbx,zf (zk hb hlH),zf hbx]
  exact hb
def SheetQ(C:SC)(H:Hp)(sh:Sh)(lines:List Int)(Q:VK):Prop:=∀(p r l:Addr) (as:List Addr) (H':Hp),zq H H'->H p=none->H r=none->H l=none->zae C H' p r l as sh lines->Q (.ref p) H'
inductive zux(Cc Cs:Addr)(vs:List V)(H:Hp)(Q:VK)(E:XK):Prop|I:∀(rt:Addr) (m:Nat) (p:Addr) (a:Nat) (ra r l:Addr) (as:List Addr) (sh:Sh) (lines row:List Int),vs=[.ref p,.int (a:Int),.ref ra]->zae ⟨Cc,Cs,rt,m⟩ H p r l as sh lines->a<sh.2.length->H ra=some (.lst (row.map V.int))->0<row.length->ra≠l->lines.length<=100->(∀H',zae ⟨Cc,Cs,rt,m⟩ H' p r l (as.set a ra) (zdV a row sh) (lines++[gI row 0])->(∀b o,H b=some o->b≠r->b≠l->H' b=some o)->Q .non H')->zux Cc Cs vs H Q E
theorem zd2(T:Txt K mg A):zH P w K mg base CX0 41 A.zkz A.zjy ["self","account","row"] (zux A.zR A.zU):=by
 refine T.znS.ok zuk (fun _ _ _ _ h=>?_) fun _ _ _ s H vs Q E hr h=>?_
 ·obtain⟨rt,m,p,a,ra,r,l,as,sh,lines,row,rfl,_⟩:=h
  rfl
 ·obtain⟨rt,m,p,a,ra,r,l,as,sh,lines,row,rfl,S,ha,hra,h0,hne,hz,k⟩:=h
  refine zQa (zkX (pv 2) (zkW (zg (pv 0) rfl) (pv 1) zeV)) (zQl (zh (zay (zeh PySem.F.plainAttrs_list PySem.F.slot_list_append PySem.F.type_list_append zdt (zg (pv 0) rfl) (za (zu zA (pv 2) zi (fun _ _=>rfl)) zc)))) ?_);intros
  obtain⟨dx,c,hp,hc⟩:=S.ins
  have hlen:=S.len
  have npr:p≠r:=zI hp S.rows (by intro z;cases z)
  have npl:p≠l:=zI hp S.lin (by intro z;cases z)
  have nrr:ra≠r:=zI hra S.rows (ze1 h0)
  have nlr:l≠r:=by
   intro z
   have h1:=S.rows
   rw[<-z,S.lin]at h1
   have h2:=HO.lst.inj (oSi h1)
   cases as with
   | nil=>simp at hlen;omega
   | cons c as=>cases lines with
    | nil=>simp at h2
    | cons x y=>simp at h2
  have nrl:r≠l:=fun z=>nlr z.symm
  refine⟨_,rfl,_,rfl,p,_,dx,_,_,rfl,hp,T.zz,T.z7,zap _ _ _ _,_,rfl,r,_,_,a,rfl,rfl,S.rows,zgh (by rw[lmm];omega),?_⟩
  have e1:(as.map V.ref).set a (V.ref ra)=(as.set a ra).map V.ref:=by rw[List.map_set]
  rw[e1]
  refine⟨_,rfl,p,_,dx,_,_,rfl,(by rw[zf npr];exact hp),T.zz,T.zed,zgD _ _ _ _,.inl ⟨rfl,_,SqL.of (by rw[zf nlr];exact S.lin)⟩,_,rfl,ra,_,_,_,rfl,rfl,SqL.of (by rw[zf nrr];exact hra),zb8 (zbh (zd1 h0)),l,_,_,rfl,rfl,(by rw[zf nlr];exact S.lin),(by rw[lmm];exact zbe (by omega)),?_⟩
  have e2:lines.map V.int++[V.int (gI row 0)]=(lines++[gI row 0]).map V.int:=by rw[lMa];rfl
  rw[e2]
  have kp :∀b o,H b=some o->b≠r->b≠l->upd (upd H r (.lst ((as.set a ra).map V.ref))) l (.lst ((lines++[gI row 0]).map V.int)) b=some o:=fun b o hb h1 h2=>by rw[zf h2,zf h1];exact hb
  refine k _ ⟨⟨dx,c,kp _ _ hp npr npl,hc.keep (fun a c dx fs h=>kp _ _ h (zI h S.rows (by intro z;cases z)) (zI h S.lin (by intro z;cases z))) (fun a kvs h=>kp _ _ h (zI h S.rows (by intro z;cases z)) (zI h S.lin (by intro z;cases z)))⟩,(by rw[zf nrl,zd]),?_,zd,?_⟩ kp
  ·have R1:zal H (as.set a ra) (sh.2.set a row):=S.row.set hra h0 a
   refine R1.mono fun b o hb he=>?_
   obtain⟨row',_,h1,h2⟩:=R1.mem hb
   refine kp b o he (zI h1 S.rows (ze1 h2)) fun z=>?_
   rcases List.mem_or_eq_of_mem_set hb with q|q
   ·exact S.sep (z▸q)
   ·exact hne (q▸z)
  ·intro hm
   rcases List.mem_or_eq_of_mem_set hm with q|q
   ·exact S.sep q
   ·exact hne q.symm
theorem zqD{C:SC}{H:Hp}{S:Int}{c r:Addr}{as:List Addr}{rows:List (List Int)}{x dx:Addr}{Q:VK}(hc:zbz C.s H c S C.m)(hr:H r=some (.lst (as.map V.ref)))(R:zal H as rows)(hx:H x=none)(hd:H dx=none)(hne:dx≠x)
  (k :∀(l:Addr) (H':Hp),zq H H'->H l=none->zae C H' x r l as (S,rows) []->Q (.ref x) H') :
  zmI C.c [.ref x,.ref C.rt,.ref c,.ref r] (upd (upd H dx (.own x)) x (.ins C.c dx [])) (fun v H2=>v=.non/\Q (.ref x) H2) E0:=by
 refine⟨x,dx,C.rt,c,r,rfl,zd,fun l H' hl hx' hl' kp=>⟨rfl,?_⟩⟩
 have nlx:l≠x:=fun z=>by rw[z,zd]at hl;cases hl
 have nld:l≠dx:=fun z=>by rw[zf nlx,z,zd]at hl;cases hl
 have hlH:H l=none:=by rw[zf nlx,zf nld]at hl;exact hl
 have s:zq H H':=fun b o hb=>kp b o (by rw[zf (zk hb hx),zf (zk hb hd)];exact hb) (zk hb hx)
 refine k l H' s hlH ⟨⟨dx,c,hx',hc.same s⟩,s _ _ hr,R.same s,hl',fun hm=>?_⟩
 obtain⟨row,_,h1,_⟩:=R.mem hm
 rw[hlH]at h1
 cases h1
inductive zuy(Cc Cs:Addr)(vs:List V)(H:Hp)(Q:VK)(E:XK):Prop|I:∀(rt:Addr) (m:Nat) (p r l:Addr) (as:List Addr) (sh:Sh) (lines:List Int) (f:Int),vs=[.ref p,.int f]->zae ⟨Cc,Cs,rt,m⟩ H p r l as sh lines->m<=900->0<f->sh.2.length<=50->(∀row,row∈sh.2->row.length<=100)->Sz 60000000 sh->bI f<=60000000->SheetQ ⟨Cc,Cs,rt,m+1⟩ H (zP f sh) [] Q->zuy Cc Cs vs H Q E
theorem zd3(T:Txt K mg A):zH P w K mg base CX0 44 A.zkD A.zjA ["sheet","factor"] (zuy A.zR A.zU):=by
 have zlC:=(@zpB P w K mg base A T).up 43
 have zgX:=(@zmJ P w K mg base A T).up 42
 have zbR:=@zdw P w K mg base A T
 refine T.zcL.ok zji (fun _ _ _ _ h=>?_) fun _ _ _ s H vs Q E hr h=>?_
 ·obtain⟨rt,m,p,r,l,as,sh,lines,f,rfl,_⟩:=h
  rfl
 ·obtain⟨rt,m,p,r,l,as,sh,lines,f,rfl,S,hm9,hf0,hz,hrow,hsz,hf,k⟩:=h
  refine zQa (zY (z5 zb0 (pv 1) zi (nomark _)) (zh (zo (zc8 T.zpP zgX hr rfl T.zpM T.zjX .nil zj (za (zg (pv 0) rfl) (za (zg (pv 0) rfl) (za (zgb zeW (by rfl) T.zlA boot_list (za (zg (pv 0) rfl) zc)) zc)))))) zJ) (zQl (zh (zo (zc8 T.zpP zgX hr rfl T.zpM T.zjX .nil zj (za (zg (pv 0) rfl) (za (zp (zg (pv 0) rfl) T.zbt T.zdz zbR hr T.zdO .nil zj (za (pv 1) zc)) (za (zfR rfl zji.nd (zdP (zg (pv 0) rfl)) (zbQ (own:=[("row",2)]) (by rfl)) (fun _ _ _ _ _=>(zag (i:=2) zji.nd rfl (Or.inl rfl))) (fun _ _ _ _ _=>zcq) (fun _ _ _ _ _=>(zw zlC hr rfl T.zpN T.zjO.kp T.zrV .nil zj (za (pv 2) (za (pv 1) zc))))) zc)))))) ?_);intros
  obtain⟨dx,c,hp,hc⟩:=S.ins
  refine⟨_,rfl,rfl,_,rfl,?_⟩
  by_cases e:f=1
  ·rw[show decide (V.int f=V.int 1)=true from decide_eq_true (by rw[e])]
   refine zaY ?_
   refine⟨_,rfl,p,_,dx,_,_,rfl,hp,T.zz,T.zbU,zcV _ _ _ _,_,rfl,p,_,dx,_,_,rfl,hp,T.zz,T.zbi,zbI _ _ _ _,_,rfl,p,_,dx,_,_,rfl,hp,T.zz,T.z7,zap _ _ _ _,r,_,rfl,.inl (SqL.of S.rows),fun r' hr'=>?_⟩
   intro x dx' hx hdx hne
   have s1:zq H (upd H r' (.lst (as.map V.ref))):=zl hr'
   refine zqD (C:=⟨A.zR,A.zU,rt,m+1⟩) (rows:=sh.2) ((hc.mono (Nat.le_succ m)).same s1) zd (S.row.same s1) hx hdx hne fun l' H' s2 hl' S'=>?_
   have e2:zP f sh=(sh.1,sh.2):=if_pos e
   rw[e2]at k
   exact k x r' l' as H' (s1.trans s2) (s1.free hx) hr' (s1.free hl') S'
  ·rw[show decide (V.int f=V.int 1)=false from decide_eq_false (fun z=>e (V.int.inj z))]
   refine zaT ?_
   have e2:zP f sh=(sh.1*f,sh.2.map (za1 f)):=if_neg e
   rw[e2]at k
   obtain⟨dc,dd,fs,hsc,_,_⟩:=id hc
   refine⟨_,rfl,p,_,dx,_,_,rfl,hp,T.zz,T.zbU,zcV _ _ _ _,_,rfl,p,_,dx,_,_,rfl,hp,T.zz,T.zbi,zbI _ _ _ _,c,dc,_,rfl,hsc,zc5 _ _,_,rfl,c,sh.1,f,m,rfl,hc,hf0,by omega,hsz.sc,hf,fun c' H0 s0 hc' S0=>?_⟩
   have hp0:=s0 _ _ hp
   refine⟨_,rfl,p,_,dx,_,_,rfl,hp0,T.zz,T.z7,zap _ _ _ _,r,rfl,⟨_,s0.seq (SqL.of S.rows)⟩,fun D hD=>?_⟩
   have hlen:=S.len
   refine zgc (K:=K) (a:=r) (xs:=as.map V.ref) (fun i H'=>zq H0 H'/\∃as',H' D=some (.lst (as'.map V.ref))/\as'.length=i/\zal H' as' ((sh.2.take i).map (za1 f))) ⟨zl hD,[],zd,rfl,.nil⟩ (fun i H' _ ⟨s,_⟩=>(s0.trans s).seq (SqL.of S.rows)) ?_ ?_
   ·rintro i x H' hx ⟨s2,as',hD2,hi2,R2⟩
    obtain⟨z,hz2,rfl⟩:=ze0 hx
    obtain⟨row,h1,h2,h3⟩:=(S.row.same (s0.trans s2)).get hz2
    have hm:=mge h1
    have hlt:i<as.length:=(List.getElem?_eq_some_iff.mp hz2).1
    refine⟨rfl,_,rfl,_,rfl,z,row,f,rfl,SqL.of h2,hrow row hm,hsz.row row hm,hf,fun l' H2 s3 hl' hl2=>?_⟩
    have hD3:=s3 _ _ hD2
    refine⟨_,hD3,(by rw[lmm];exact zbe (by omega)),fun c o hc=>?_,as'++[l'],?_,by rw[lEa,hi2];rfl,?_⟩
    ·rw[zf (zk hc hD)];exact s3 _ _ (s2 _ _ hc)
    ·rw[zd,lMa];rfl
    ·rw[Pr.zab h1,lMa]
     exact((R2.same s3).snoc hl2 (by unfold za1;rw[lmm];exact h3)).upd_refs hD3
   ·rintro H' ⟨s2,as',hD2,hi2,R2⟩
    rw[tOl (by rw[lmm];omega)]at R2
    intro x dx' hx hdx hne
    refine zqD (C:=⟨A.zR,A.zU,rt,m+1⟩) (S0.same s2) hD2 R2 hx hdx hne fun l' H2 s3 hl' S'=>?_
    exact k x D l' as' H2 (s0.trans (s2.trans s3)) (s0.free (s2.free hx)) (s0.free hD) (s0.free (s2.free hl')) S'
def RatIx(H:Hp)(rt:Addr)(i:Nat)(n d:Int):Prop:=E2 fun(qas:List Addr)(ra:Addr)=>H rt=some (.lst (qas.map V.ref))/\qas[i]? = some ra/\H ra=some (.tup [.int n,.int d])
inductive zuz(Cc Cs:Addr)(vs:List V)(H:Hp)(Q:VK)(E:XK):Prop|I:∀(rt:Addr) (m:Nat) (p r l:Addr) (as:List Addr) (sh:Sh) (lines:List Int) (i W:Nat) (n d:Int),vs=[.ref p,.int (i:Int),.int (W:Int)]->zae ⟨Cc,Cs,rt,m⟩ H p r l as sh lines->RatIx H rt i n d->0<d->d∣sh.1->0<W->(1<W->i+1<W)->W<=50->bI sh.1<=20000000->bI n<=20000000->RowQ H (zbu sh.1 W i n d) Q->zuz Cc Cs vs H Q E
theorem zjo(B:Bs P base)(T:Txt K mg A):zH P w K mg base CX0 42 A.zkB A.zjz ["sheet","p","width"] (zuz A.zR A.zU):=by
 have zdA:=@zgB P w K mg base A T
 refine T.zfd.ok zgy (fun vs H Q E h=>?_) (fun cdv A' outer s H vs Q E hr h=>?_)
 ·obtain⟨rt,m,p,r,l,as,sh,lines,i,W,n,d,rfl,_⟩:=h
  rfl
 ·obtain⟨rt,m,p,r,l,as,sh,lines,i,W,n,d,rfl,S,⟨qas,ra,hrt,hq,hra⟩,hd,hv,hW,hi,hN,hS,hn,k⟩:=h
  have B:=znu (w:=w) (K:=K) (mg:=mg) (outer:=outer) (H:=H) (E:=E) zgy B hr (by decide)
  refine zQa (qD 3 zgy.nd (zu zA (zg (pv 0) rfl) (pv 1) (fun _ _=>rfl))) (zQc (qD 4 zgy.nd (zW ztN (zL (za zi zc)) (pv 2))) (zQc (zkX (zW za2 (zu z6 (pv 3) zi (fun _ _=>rfl)) (zW (zlN B) (zg (zg (pv 0) rfl) rfl) (zu z6 (pv 3) zi (fun _ _=>rfl)))) (zkW (pv 4) zi zeV)) (zQc (zY (z5 zlI (pv 2) zi (nomark _)) (zh (zkX (zW za2 (zg (zg (pv 0) rfl) rfl) (zw zdA hr rfl T.zgR T.zes.kp T.zh7 .nil zj (za (pv 3) zc))) (zkW (pv 4) (zW zb7 zi (pv 1)) zeV))) zJ) (zQl (zh (zo (pv 4))) ?_))));intros
  refine zHd ?_;intro
  obtain⟨dx,c,hp,hc⟩:=S.ins
  obtain⟨dc,dd,fs,hsc,_,_⟩:=id hc
  have hqr:(qas.map V.ref)[i]? = some (V.ref ra):=by rw[gEm,hq];rfl
  refine⟨_,rfl,p,_,dx,_,_,rfl,hp,T.zz,T.zbU,zcV _ _ _ _,_,rfl,rt,_,_,_,rfl,rfl,SqL.of hrt,zb8 hqr,?_⟩
  refine⟨zbC,fun z hz=>?_⟩
  refine⟨_,rfl,z,(W:Int),_,rfl,rfl,zd,by omega,by omega,?_,fun l' hl=>?_⟩
  ·show 1*(W:Int).toNat<=sizeLine
   rw[sizeLine_eq]
   omega
  rw[zpD,Int.toNat_natCast]
  have s1:zq H (upd H z (.lst [.int 0])):=zl hz
  have s2:zq H (upd (upd H z (.lst [.int 0])) l' (.lst (List.replicate W (V.int 0)))):=s1.trans (zl hl)
  have hlH:H l'=none:=s1.free hl
  have e0:List.replicate W (V.int 0)=(List.replicate W (0:Int)).map V.int:=by rw[List.map_replicate]
  have s3 :∀u,zq H (upd (upd H z (.lst [.int 0])) l' u):=fun u b o hb=>by rw[zf (zk hb hlH)];exact s1 _ _ hb
  refine⟨_,rfl,ra,_,_,_,rfl,rfl,SqT.of (s2 _ _ hra),rfl,_,rfl,p,_,dx,_,_,rfl,s2 _ _ hp,T.zz,T.zbi,zbI _ _ _ _,c,_,dc,_,_,rfl,s2 _ _ hsc,T.zbt,T.zdd,zdi _ _,_,rfl,ra,_,_,_,rfl,rfl,SqT.of (s2 _ _ hra),rfl,_,_,rfl,rfl,hd,_,_,rfl,rfl,zcU (by omega) (nLt (zk6 hd hv) (by omega)),?_⟩
  refine⟨_,rfl,l',_,0,0,rfl,rfl,zd,zgh (i:=0) (by rw[List.length_replicate];omega),?_⟩
  rw[zaS]
  refine⟨_,rfl,_,_,rfl,rfl,_,rfl,?_⟩
  have b3:=zfK n
  refine zaZ (fun e=>?_) (fun e=>?_)
  ·have e1:1<W:=by have:=oDt e;omega
   refine⟨_,rfl,p,_,dx,_,_,rfl,s3 _ _ _ hp,T.zz,T.zbi,zbI _ _ _ _,c,_,dc,_,_,rfl,s3 _ _ _ hsc,T.zbt,T.zdd,zdi _ _,_,rfl,ra,n,d,rfl,SqT.of (s3 _ _ _ hra),_,_,rfl,rfl,zcU (by omega) (by omega),_,rfl,_,rfl,_,_,rfl,rfl,l',_,1+(i:Int),i+1,rfl,rfl,zd,?_,?_⟩
   ·rw[show(1+(i:Int))=((i+1:Nat):Int) by omega]
    exact zgh (by rw[List.length_set,List.length_replicate];exact hi e1)
   rw[zaS]
   refine⟨_,rfl,k l' _ (s3 _) hlH ?_⟩
   rw[zd,e0]
   unfold zbu
   rw[if_pos e1,List.map_set,List.map_set]
  ·have e1:¬1<W:=fun z=>e (decide_eq_true (by omega))
   refine⟨_,rfl,k l' _ (s3 _) hlH ?_⟩
   rw[zd,e0]
   unfold zbu
   rw[if_neg e1,List.map_set]
structure RuleIn(N:Nat)(sh:Sh)(q:zav)(n d:Int):Prop where
 len :∀row,row∈sh.2->row.length=N
 one:0<N
 acc:sh.2.length<=50
 few:N<=49
 a:0<=q.a/\q.a<sh.2.length
 b:0<=q.b/\q.b<sh.2.length
 p:0<=q.p
 wid:1<N->q.p+1<N
 pos:0<d
 dvd:d∣sh.1
 sz:Sz 10000000 sh
 n:bI n<=1000000
 d:bI d<=1000000
theorem zdj(f:Int)(sh:Sh):(zP f sh).2.length=sh.2.length:=by
 unfold zP
 split
 ·rfl
 ·rw[lmm]
theorem zhE{f:Int}{sh:Sh}{m:Nat}(h :∀row,row∈sh.2->row.length=m) :∀row,row∈(zP f sh).2->row.length=m:=by
 unfold zP
 split
 ·exact h
 ·intro row hr
  have hr':row∈sh.2.map (za1 f):=hr
  rw[List.mem_map]at hr'
  obtain⟨r0,h0,rfl⟩:=hr'
  unfold za1
  rw[lmm]
  exact h r0 h0
theorem zuA{a:Nat}{row:List Int}{sh:Sh}{m:Nat}(h :∀row,row∈sh.2->row.length=m)(hr:row.length=m) :∀row',row'∈(zdV a row sh).2->row'.length=m:=fun row' hm=>by
 rcases List.mem_or_eq_of_mem_set (show row'∈sh.2.set a row from hm)with q|q
 ·exact h _ q
 ·rw[q];exact hr
theorem zsJ(a:Nat)(row:List Int)(sh:Sh):(zdV a row sh).2.length=sh.2.length:=List.length_set
theorem zdx(t c r l:Addr):(zcc t c r l).lookup ("put" : Str)=none:=zbJ _ _ _ _
inductive zgi(K:Fg)(Cc Cs CR:Addr)(kd:Int)(res:Nat->Int->Int->Sh->zav->Sh×List Int)(vs:List V)(H:Hp)(Q:VK)(E:XK):Prop|I:∀(rt:Addr) (m0:Nat) (p r l:Addr) (as:List Addr) (sh:Sh) (lines:List Int) (u:Addr) (q:zav) (ra:Addr) (n d:Int) (N:Nat),vs=[.ref p,.ref u,.ref ra]->zae ⟨Cc,Cs,rt,m0⟩ H p r l as sh lines->m0<=900->zeA CR H u q->SqT K H ra [.int n,.int d]->RatIx H rt q.p.toNat n d->RuleIn N sh q n d->q.k=kd->(kd=5->n≠0)->SheetQ ⟨Cc,Cs,rt,m0+1⟩ H (res N n d sh q).1 (res N n d sh q).2 Q->zgi K Cc Cs CR kd res vs H Q E
theorem zeH{K:Fg}{Cc Cs CR:Addr}{kd:Int}{res:Nat->Int->Int->Sh->zav->Sh×List Int}{vs:List V}{H:Hp}{Q:VK}{E:XK}(h:zgi K Cc Cs CR kd res vs H Q E):vs.length=3:=by
 obtain⟨rt,m0,p,r,l,as,sh,lines,u,q,ra,n,d,N,rfl,_⟩:=h
 rfl
theorem RuleIn.st{N:Nat}{sh:Sh}{q:zav}{n d:Int}(I:RuleIn N sh q n d):(∀row,row∈sh.2->row.length<=100)/\Sz 60000000 sh:=
 ⟨fun row h=>by have:=I.len row h;have:=I.few;omega,I.sz.mono (by decide)⟩
theorem zaV{a:Int}{n:Nat}(h:0<=a/\a<n):a=((a.toNat:Nat):Int)/\a.toNat<n:=⟨by omega,by omega⟩
theorem zae.read{C:SC}{H:Hp}{p r l:Addr}{as:List Addr}{sh:Sh}{lines:List Int}(S:zae C H p r l as sh lines){a:Int}(h:0<=a/\a<sh.2.length) :
  ∃c,atI (as.map V.ref) a=some (V.ref c)/\c∈as/\H c=some (.lst ((zD sh.2 a.toNat).map V.int))/\0<(zD sh.2 a.toNat).length:=by
 obtain⟨e,hl⟩:=zaV h
 obtain⟨c,hc,hm,h1,h2⟩:=S.at_ hl
 exact⟨c,zei e (by rw[gEm,hc];rfl),hm,h1,h2⟩
theorem zae.apart{C:SC}{H:Hp}{p r l:Addr}{as:List Addr}{sh:Sh}{lines:List Int}(S:zae C H p r l as sh lines)(h:0<sh.2.length):r≠l:=by
 intro z
 have hlen:=S.len
 have h1:=S.rows
 rw[z,S.lin]at h1
 have h2:=HO.lst.inj (oSi h1)
 cases as with
 | nil=>simp at hlen;omega
 | cons c as=>cases lines with
  | nil=>simp at h2
  | cons x y=>simp at h2
theorem zA0(T:Txt K mg A):zH P w K mg base CX0 45 A.zlm A.zrF ["sheet","rule","ratio"] (zgi K A.zR A.zU A.zaH 0 fun _ n d sh q=>growS q.a.toNat q.p.toNat n d sh):=by
 have zh9:=(@zlX P w K mg base A T).up 44
 have zbZ:=@zd3 P w K mg base A T
 have zbB:=(@zd2 P w K mg base A T).up 44
 have zj0:=(@zok P w K mg base A T).up 44
 refine T.zrP.ok zrf (fun vs H Q E h=>zeH h) (fun cdv A' outer s H vs Q E hr h=>?_)
 obtain⟨rt,m0,p,r,l,as,sh,lines,u,q,ra,n,d,N,rfl,S,hm0,hu,hra,hix,I,hkd,hnz,k⟩:=h
 have on:=I.one
 have wd:=I.wid
 have ip:=I.p
 refine zQa (qD 3 zrf.nd (zw zh9 hr rfl T.zmm T.zgT.kp T.zn4 .nil zj (za (zu zA (zg (pv 0) rfl) (zg (pv 1) rfl) (fun _ _=>rfl)) (za (zg (pv 1) rfl) (za (pv 2) zc))))) (zQc (qD 4 zrf.nd (zw zbZ hr rfl T.zeb T.zcL.kp T.zeJ .nil zj (za (pv 0) (za (zu z6 (pv 2) zi (fun _ _=>rfl)) zc)))) (zQc (zay (zp (pv 4) T.zz T.zcK zbB hr T.zc7 .nil zj (za (zg (pv 1) rfl) (za (zw zj0 hr rfl T.zor T.zi1.kp T.zqY .nil zj (za (zu zA (zg (pv 4) rfl) (zg (pv 1) rfl) (fun _ _=>rfl)) (za (pv 3) zc))) zc)))) (zQl (zh (zo (pv 4))) ?_)));intros
 have few:=I.few
 refine zHd ?_;intro
 obtain⟨ea,la⟩:=zaV I.a
 have ep:q.p=((q.p.toNat:Nat):Int):=by omega
 have hrl:(zD sh.2 q.a.toNat).length=N:=I.len _ (zb9 la)
 have hdn:=I.d
 have hnn:=I.n
 obtain⟨dx,_,hp,_⟩:=S.ins
 obtain⟨du,hu0⟩:=hu
 obtain⟨c,hc,hcm,hc2,hc3⟩:=S.read I.a
 refine⟨_,rfl,p,_,dx,_,_,rfl,hp,T.zz,T.z7,zap _ _ _ _,_,rfl,u,_,du,_,_,rfl,hu0,T.zG,T.zaA,zba q,r,_,_,_,rfl,rfl,SqL.of S.rows,hc,_,rfl,u,_,du,_,_,rfl,hu0,T.zG,T.zbf,zca q,_,rfl,?_⟩
 refine⟨c,zD sh.2 q.a.toNat,q.p.toNat,ra,n,d,(by rw[<-ep];rfl),SqL.of hc2,hra,by omega,by omega,by omega,(I.sz.rowAt _).mono (by decide),by omega,by omega,fun g H1 s1 hg hg1=>?_⟩
 refine⟨_,rfl,_,rfl,ra,_,_,_,rfl,rfl,s1.seqT hra,rfl,rt,m0,p,r,l,as,sh,lines,d,rfl,S.same s1,hm0,I.pos,I.acc,I.st.1,I.st.2,by omega,fun p2 r2 l2 as2 H2 s2 hp2 hr2 hl2 S2=>?_⟩
 have ia2:0<=q.a/\q.a<(zP d sh).2.length:=by rw[zdj];exact I.a
 refine zHd ?_;intro
 obtain⟨dx2,c2',hp3,hcs⟩:=S2.ins
 obtain⟨c2,hc4,hcm2,hc5,hc6⟩:=S2.read ia2
 have hg2:=s2 _ _ hg1
 have hu2:=s2 _ _ (s1 _ _ hu0)
 have hrl2:(zD (zP d sh).2 q.a.toNat).length=N:=zhE I.len _ (zb9 (zaV ia2).2)
 have hpl:(za9 (zD sh.2 q.a.toNat) q.p.toNat n d).length=N:=by rw[zgt];exact hrl
 refine⟨_,rfl,p2,dx2,_,rfl,hp3,zdx _ _ _ _,_,rfl,u,_,du,_,_,rfl,hu2,T.zG,T.zaA,zba q,_,rfl,p2,_,dx2,_,_,rfl,hp3,T.zz,T.z7,zap _ _ _ _,_,rfl,u,_,du,_,_,rfl,hu2,T.zG,T.zaA,zba q,r2,_,_,_,rfl,rfl,SqL.of S2.rows,hc4,_,rfl,
  c2,g,_,_,rfl,SqL.of hc5,SqL.of hg2,by rw[hpl,hrl2],by omega,fun m H3 s3 hm hm1=>?_⟩
 have S3:=S2.same s3
 have nml:m≠l2:=fun z=>zk S2.lin hm z.symm
 refine⟨rt,m0+1,p2,q.a.toNat,m,r2,l2,as2,zP d sh,[],_,(by rw[<-ea];rfl),S3,(zaV ia2).2,hm1,?_,nml,by simp,fun H4 S4 kp=>?_⟩
 ·rw[zgu (by rw[hpl,hrl2]),hrl2]
  omega
 refine⟨_,rfl,?_⟩
 have s12:zq H H2:=s1.trans s2
 exact k p2 r2 l2 _ H4 (fun b o hb=>kp b o (s3 _ _ (s12 _ _ hb)) (fun z=>by rw[z,s1.free hr2]at hb;cases hb) (fun z=>by rw[z,s1.free hl2]at hb;cases hb)) (s1.free hp2) (s1.free hr2) (s1.free hl2) S4
theorem zBS(B:Bs P base)(T:Txt K mg A):zH P w K mg base CX0 45 A.zoq A.zuW ["sheet","rule","ratio"] (zgi K A.zR A.zU A.zaH 1 fun N n d sh q=>payS N q.a.toNat q.p.toNat n d sh):=by
 have zfQ:=(zjo (w:=w) B T).up 44
 have zbZ:=@zd3 P w K mg base A T
 have zbB:=(@zd2 P w K mg base A T).up 44
 have zlD:=(@zpC P w K mg base A T).up 44
 refine T.zu6.ok zul (fun vs H Q E h=>zeH h) (fun cdv A' outer s H vs Q E hr h=>?_)
 obtain⟨rt,m0,p,r,l,as,sh,lines,u,q,ra,n,d,N,rfl,S,hm0,hu,hra,hix,I,hkd,hnz,k⟩:=h
 have on:=I.one
 have wd:=I.wid
 have ip:=I.p
 refine zQa (qD 3 zul.nd (zw zfQ hr rfl T.zjM T.zfd.kp T.zkT .nil zj (za (pv 0) (za (zg (pv 1) rfl) (za (zaN zaC (by rfl) T.zcw PySem.boot_len (za (zu zA (zg (pv 0) rfl) (zg (pv 1) rfl) (fun _ _=>rfl)) zc)) zc))))) (zQc (qD 4 zul.nd (zw zbZ hr rfl T.zeb T.zcL.kp T.zeJ .nil zj (za (pv 0) (za zi zc)))) (zQc (zay (zp (pv 4) T.zz T.zcK zbB hr T.zc7 .nil zj (za (zg (pv 1) rfl) (za (zw zlD hr rfl T.zpO T.zjP.kp T.zrW .nil zj (za (zu zA (zg (pv 4) rfl) (zg (pv 1) rfl) (fun _ _=>rfl)) (za (pv 3) zc))) zc)))) (zQl (zh (zo (pv 4))) ?_)));intros
 have few:=I.few
 refine zHd ?_;intro
 obtain⟨ea,la⟩:=zaV I.a
 obtain⟨eb,lb⟩:=zaV I.b
 have ep:q.p=((q.p.toNat:Nat):Int):=by omega
 have hdn:=I.d
 have hnn:=I.n
 obtain⟨dx,_,hp,_⟩:=S.ins
 have hu':=hu
 obtain⟨du,hu0⟩:=hu
 obtain⟨c,hc,hcm,hc2,hc3⟩:=S.read I.a
 have hrl:(zD sh.2 q.a.toNat).length=N:=I.len _ (zb9 la)
 have hS:bI sh.1<=20000000:=nLt I.sz.sc (by decide)
 refine⟨_,rfl,_,rfl,u,_,du,_,_,rfl,hu0,T.zG,T.zbf,zca q,_,rfl,p,_,dx,_,_,rfl,hp,T.zz,T.z7,zap _ _ _ _,_,rfl,u,_,du,_,_,rfl,hu0,T.zG,T.zaA,zba q,r,_,_,_,rfl,rfl,SqL.of S.rows,hc,c,_,rfl,.inl (SqL.of hc2),
  rt,m0,p,r,l,as,sh,lines,q.p.toNat,N,n,d,(by rw[lmm,hrl,<-ep];rfl),S,hix,I.pos,I.dvd,on,by omega,by omega,hS,by omega,fun g H1 s1 hg hg1=>?_⟩
 have est:zP 1 sh=sh:=if_pos rfl
 refine⟨_,rfl,rt,m0,p,r,l,as,sh,lines,1,rfl,S.same s1,hm0,by decide,I.acc,I.st.1,I.st.2,by decide,fun p2 r2 l2 as2 H2 s2 hp2 hr2 hl2 S2'=>?_⟩
 rw[est]at S2'
 have ia2:=I.a
 refine zHd ?_;intro
 obtain⟨dx2,_,hp3',_⟩:=S2'.ins
 have hg2':=s2 _ _ hg1
 have hu2':=s2 _ _ (s1 _ _ hu0)
 have hrl2:(zD sh.2 q.a.toNat).length=N:=I.len _ (zb9 la)
 have hpl:=zfU sh.1 N q.p.toNat n d
 have ngl:g≠l2:=zk hg1 hl2
 have s12:zq H H2:=s1.trans s2
 obtain⟨c2,hc4,hcm2,hc5,hc6⟩:=S2'.read ia2
 refine⟨_,rfl,p2,dx2,_,rfl,hp3',zdx _ _ _ _,_,rfl,u,_,du,_,_,rfl,hu2',T.zG,T.zaA,zba q,_,rfl,p2,_,dx2,_,_,rfl,hp3',T.zz,T.z7,zap _ _ _ _,_,rfl,u,_,du,_,_,rfl,hu2',T.zG,T.zaA,zba q,r2,_,_,_,rfl,rfl,SqL.of S2'.rows,hc4,_,rfl,
  c2,g,_,_,rfl,SqL.of hc5,SqL.of hg2',by rw[hpl,hrl2],by omega,fun m H3 s3 hm hm1=>?_⟩
 have S3:=S2'.same s3
 have nml:m≠l2:=fun z=>zk S2'.lin hm z.symm
 have lm:(zbX (zD sh.2 q.a.toNat) (zbu sh.1 N q.p.toNat n d)).length=N:=by rw[zib (by rw[hpl,hrl2]),hrl2]
 refine⟨rt,m0+1,p2,q.a.toNat,m,r2,l2,as2,sh,_,_,(by rw[<-ea];rfl),S3,(zaV ia2).2,hm1,by omega,nml,by simp,fun H4 S4 kp=>?_⟩
 refine⟨_,rfl,?_⟩
 exact k p2 r2 l2 _ H4 (fun b o hb=>kp b o (s3 _ _ (s12 _ _ hb)) (fun z=>by rw[z,s1.free hr2]at hb;cases hb) (fun z=>by rw[z,s1.free hl2]at hb;cases hb)) (s1.free hp2) (s1.free hr2) (s1.free hl2) S4
theorem zA1(B:Bs P base)(T:Txt K mg A):zH P w K mg base CX0 45 A.zln A.zrG ["sheet","rule","ratio"] (zgi K A.zR A.zU A.zaH 2 fun N n d sh q=>moveS N q.a.toNat q.b.toNat q.p.toNat n d sh):=by
 have zfQ:=(zjo (w:=w) B T).up 44
 have zbZ:=@zd3 P w K mg base A T
 have zbB:=(@zd2 P w K mg base A T).up 44
 have zj0:=(@zok P w K mg base A T).up 44
 have zlD:=(@zpC P w K mg base A T).up 44
 refine T.zrQ.ok zrg (fun vs H Q E h=>zeH h) (fun cdv A' outer s H vs Q E hr h=>?_)
 obtain⟨rt,m0,p,r,l,as,sh,lines,u,q,ra,n,d,N,rfl,S,hm0,hu,hra,hix,I,hkd,hnz,k⟩:=h
 have on:=I.one
 have wd:=I.wid
 have ip:=I.p
 refine zQa (qD 3 zrg.nd (zw zfQ hr rfl T.zjM T.zfd.kp T.zkT .nil zj (za (pv 0) (za (zg (pv 1) rfl) (za (zaN zaC (by rfl) T.zcw PySem.boot_len (za (zu zA (zg (pv 0) rfl) (zg (pv 1) rfl) (fun _ _=>rfl)) zc)) zc))))) (zQc (qD 4 zrg.nd (zw zbZ hr rfl T.zeb T.zcL.kp T.zeJ .nil zj (za (pv 0) (za zi zc)))) (zQc (zay (zp (pv 4) T.zz T.zcK zbB hr T.zc7 .nil zj (za (zg (pv 1) rfl) (za (zw zlD hr rfl T.zpO T.zjP.kp T.zrW .nil zj (za (zu zA (zg (pv 4) rfl) (zg (pv 1) rfl) (fun _ _=>rfl)) (za (pv 3) zc))) zc)))) (zQc (zay (zp (pv 4) T.zz T.zcK zbB hr T.zc7 .nil zj (za (zg (pv 1) rfl) (za (zw zj0 hr rfl T.zor T.zi1.kp T.zqY .nil zj (za (zu zA (zg (pv 4) rfl) (zg (pv 1) rfl) (fun _ _=>rfl)) (za (pv 3) zc))) zc)))) (zQl (zh (zo (pv 4))) ?_))));intros
 have few:=I.few
 refine zHd ?_;intro
 obtain⟨ea,la⟩:=zaV I.a
 obtain⟨eb,lb⟩:=zaV I.b
 have ep:q.p=((q.p.toNat:Nat):Int):=by omega
 have hdn:=I.d
 have hnn:=I.n
 obtain⟨dx,_,hp,_⟩:=S.ins
 have hu':=hu
 obtain⟨du,hu0⟩:=hu
 obtain⟨c,hc,hcm,hc2,hc3⟩:=S.read I.a
 have hrl:(zD sh.2 q.a.toNat).length=N:=I.len _ (zb9 la)
 have hS:bI sh.1<=20000000:=nLt I.sz.sc (by decide)
 refine⟨_,rfl,_,rfl,u,_,du,_,_,rfl,hu0,T.zG,T.zbf,zca q,_,rfl,p,_,dx,_,_,rfl,hp,T.zz,T.z7,zap _ _ _ _,_,rfl,u,_,du,_,_,rfl,hu0,T.zG,T.zaA,zba q,r,_,_,_,rfl,rfl,SqL.of S.rows,hc,c,_,rfl,.inl (SqL.of hc2),
  rt,m0,p,r,l,as,sh,lines,q.p.toNat,N,n,d,(by rw[lmm,hrl,<-ep];rfl),S,hix,I.pos,I.dvd,on,by omega,by omega,hS,by omega,fun g H1 s1 hg hg1=>?_⟩
 have est:zP 1 sh=sh:=if_pos rfl
 refine⟨_,rfl,rt,m0,p,r,l,as,sh,lines,1,rfl,S.same s1,hm0,by decide,I.acc,I.st.1,I.st.2,by decide,fun p2 r2 l2 as2 H2 s2 hp2 hr2 hl2 S2'=>?_⟩
 rw[est]at S2'
 have ia2:=I.a
 refine zHd ?_;intro
 obtain⟨dx2,_,hp3',_⟩:=S2'.ins
 have hg2':=s2 _ _ hg1
 have hu2':=s2 _ _ (s1 _ _ hu0)
 have hrl2:(zD sh.2 q.a.toNat).length=N:=I.len _ (zb9 la)
 have hpl:=zfU sh.1 N q.p.toNat n d
 have ngl:g≠l2:=zk hg1 hl2
 have s12:zq H H2:=s1.trans s2
 obtain⟨c2,hc4,hcm2,hc5,hc6⟩:=S2'.read ia2
 refine⟨_,rfl,p2,dx2,_,rfl,hp3',zdx _ _ _ _,_,rfl,u,_,du,_,_,rfl,hu2',T.zG,T.zaA,zba q,_,rfl,p2,_,dx2,_,_,rfl,hp3',T.zz,T.z7,zap _ _ _ _,_,rfl,u,_,du,_,_,rfl,hu2',T.zG,T.zaA,zba q,r2,_,_,_,rfl,rfl,SqL.of S2'.rows,hc4,_,rfl,
  c2,g,_,_,rfl,SqL.of hc5,SqL.of hg2',by rw[hpl,hrl2],by omega,fun m H3 s3 hm hm1=>?_⟩
 have S3:=S2'.same s3
 have nml:m≠l2:=fun z=>zk S2'.lin hm z.symm
 have lm:(zbX (zD sh.2 q.a.toNat) (zbu sh.1 N q.p.toNat n d)).length=N:=by rw[zib (by rw[hpl,hrl2]),hrl2]
 refine⟨rt,m0+1,p2,q.a.toNat,m,r2,l2,as2,sh,_,_,(by rw[<-ea];rfl),S3,(zaV ia2).2,hm1,by omega,nml,by simp,fun H4 S4 kp=>?_⟩
 have ng4:g≠r2:=zI hg2' S2'.rows (ze1 (by omega))
 have nu4:u≠r2:=zI hu2' S2'.rows (by intro z;cases z)
 have nu5:u≠l2:=zI hu2' S2'.lin (by intro z;cases z)
 have hu4:=kp _ _ (s3 _ _ hu2') nu4 nu5
 have hg4:=kp _ _ (s3 _ _ hg2') ng4 ngl
 have s14:zq H H4:=fun b o hb=>kp b o (s3 _ _ (s12 _ _ hb)) (fun z=>by rw[z,s1.free hr2]at hb;cases hb) (fun z=>by rw[z,s1.free hl2]at hb;cases hb)
 refine zHd ?_;intro
 obtain⟨dx4,_,hp4,_⟩:=S4.ins
 have ib4:0<=q.b/\q.b<(zdV q.a.toNat (zbX (zD sh.2 q.a.toNat) (zbu sh.1 N q.p.toNat n d)) sh).2.length:=by rw[zsJ];exact I.b
 obtain⟨c4,hc7,hcm4,hc8,hc9⟩:=S4.read ib4
 have hrl4:(zD (zdV q.a.toNat (zbX (zD sh.2 q.a.toNat) (zbu sh.1 N q.p.toNat n d)) sh).2 q.b.toNat).length=N:=zuA I.len lm _ (zb9 (zaV ib4).2)
 refine⟨_,rfl,p2,dx4,_,rfl,hp4,zdx _ _ _ _,_,rfl,u,_,du,_,_,rfl,hu4,T.zG,T.zcM,zeG q,_,rfl,p2,_,dx4,_,_,rfl,hp4,T.zz,T.z7,zap _ _ _ _,_,rfl,u,_,du,_,_,rfl,hu4,T.zG,T.zcM,zeG q,r2,_,_,_,rfl,rfl,SqL.of S4.rows,hc7,_,rfl,
  c4,g,_,_,rfl,SqL.of hc8,SqL.of hg4,by rw[hpl,hrl4],by omega,fun m5 H5 s5 hm5 hm6=>?_⟩
 have S5:=S4.same s5
 have nml5:m5≠l2:=fun z=>zk S4.lin hm5 z.symm
 refine⟨rt,m0+1,p2,q.b.toNat,m5,r2,l2,_,_,_,_,(by rw[<-eb];rfl),S5,(zaV ib4).2,hm6,?_,nml5,by simp,fun H6 S6 kp6=>?_⟩
 ·rw[zgu (by rw[hpl,hrl4]),hrl4]
  omega
 refine⟨_,rfl,?_⟩
 exact k p2 r2 l2 _ H6 (fun b o hb=>kp6 b o (s5 _ _ (s14 _ _ hb)) (fun z=>by rw[z,s1.free hr2]at hb;cases hb) (fun z=>by rw[z,s1.free hl2]at hb;cases hb)) (s1.free hp2) (s1.free hr2) (s1.free hl2) S6
theorem zzR(T:Txt K mg A):zH P w K mg base CX0 45 A.zi0 A.zpL ["sheet","rule","ratio"] (zgi K A.zR A.zU A.zaH 3 fun _ n d sh q=>shareS q.a.toNat q.b.toNat q.p.toNat n d sh):=by
 have zh9:=(@zlX P w K mg base A T).up 44
 have zbZ:=@zd3 P w K mg base A T
 have zbB:=(@zd2 P w K mg base A T).up 44
 have zj0:=(@zok P w K mg base A T).up 44
 have zlD:=(@zpC P w K mg base A T).up 44
 refine T.zpR.ok zpA (fun vs H Q E h=>zeH h) (fun cdv A' outer s H vs Q E hr h=>?_)
 obtain⟨rt,m0,p,r,l,as,sh,lines,u,q,ra,n,d,N,rfl,S,hm0,hu,hra,hix,I,hkd,hnz,k⟩:=h
 have on:=I.one
 have wd:=I.wid
 have ip:=I.p
 refine zQa (qD 3 zpA.nd (zw zh9 hr rfl T.zmm T.zgT.kp T.zn4 .nil zj (za (zu zA (zg (pv 0) rfl) (zg (pv 1) rfl) (fun _ _=>rfl)) (za (zg (pv 1) rfl) (za (pv 2) zc))))) (zQc (qD 4 zpA.nd (zw zbZ hr rfl T.zeb T.zcL.kp T.zeJ .nil zj (za (pv 0) (za (zu z6 (pv 2) zi (fun _ _=>rfl)) zc)))) (zQc (zay (zeh PySem.F.plainAttrs_list PySem.F.slot_list_append PySem.F.type_list_append zdt (zg (pv 4) rfl) (za (zu zA (pv 3) zi (fun _ _=>rfl)) zc))) (zQc (zay (zp (pv 4) T.zz T.zcK zbB hr T.zc7 .nil zj (za (zg (pv 1) rfl) (za (zw zlD hr rfl T.zpO T.zjP.kp T.zrW .nil zj (za (zu zA (zg (pv 4) rfl) (zg (pv 1) rfl) (fun _ _=>rfl)) (za (pv 3) zc))) zc)))) (zQc (zay (zp (pv 4) T.zz T.zcK zbB hr T.zc7 .nil zj (za (zg (pv 1) rfl) (za (zw zj0 hr rfl T.zor T.zi1.kp T.zqY .nil zj (za (zu zA (zg (pv 4) rfl) (zg (pv 1) rfl) (fun _ _=>rfl)) (za (pv 3) zc))) zc)))) (zQl (zh (zo (pv 4))) ?_)))));intros
 have few:=I.few
 refine zHd ?_;intro
 obtain⟨ea,la⟩:=zaV I.a
 obtain⟨eb,lb⟩:=zaV I.b
 have ep:q.p=((q.p.toNat:Nat):Int):=by omega
 have hdn:=I.d
 have hnn:=I.n
 obtain⟨dx,_,hp,_⟩:=S.ins
 have hu':=hu
 obtain⟨du,hu0⟩:=hu
 have hrl:(zD sh.2 q.a.toNat).length=N:=I.len _ (zb9 la)
 obtain⟨c,hc,hcm,hc2,hc3⟩:=S.read I.a
 refine⟨_,rfl,p,_,dx,_,_,rfl,hp,T.zz,T.z7,zap _ _ _ _,_,rfl,u,_,du,_,_,rfl,hu0,T.zG,T.zaA,zba q,r,_,_,_,rfl,rfl,SqL.of S.rows,hc,_,rfl,u,_,du,_,_,rfl,hu0,T.zG,T.zbf,zca q,_,rfl,?_⟩
 refine⟨c,zD sh.2 q.a.toNat,q.p.toNat,ra,n,d,(by rw[<-ep];rfl),SqL.of hc2,hra,by omega,by omega,by omega,(I.sz.rowAt _).mono (by decide),by omega,by omega,fun g H1 s1 hg hg1=>?_⟩
 refine⟨_,rfl,_,rfl,ra,_,_,_,rfl,rfl,s1.seqT hra,rfl,rt,m0,p,r,l,as,sh,lines,d,rfl,S.same s1,hm0,I.pos,I.acc,I.st.1,I.st.2,by omega,fun p2 r2 l2 as2 H2 s2 hp2 hr2 hl2 S2=>?_⟩
 have ia2:0<=q.a/\q.a<(zP d sh).2.length:=by rw[zdj];exact I.a
 refine zHd ?_;intro
 obtain⟨dx2,c2',hp3,hcs⟩:=S2.ins
 have hg2:=s2 _ _ hg1
 have hu2:=s2 _ _ (s1 _ _ hu0)
 have hrl2:(zD (zP d sh).2 q.a.toNat).length=N:=zhE I.len _ (zb9 (zaV ia2).2)
 have hpl:(za9 (zD sh.2 q.a.toNat) q.p.toNat n d).length=N:=by rw[zgt];exact hrl
 have g0:0<(za9 (zD sh.2 q.a.toNat) q.p.toNat n d).length:=by omega
 have ngl:g≠l2:=zk hg1 hl2
 have npl:p2≠l2:=zI hp3 S2.lin (by intro z;cases z)
 refine⟨_,rfl,p2,_,dx2,_,_,rfl,hp3,T.zz,T.zed,zgD _ _ _ _,.inl ⟨rfl,_,SqL.of S2.lin⟩,_,rfl,g,_,_,_,rfl,rfl,SqL.of hg2,zb8 (zbh (zd1 g0)),l2,_,_,rfl,rfl,S2.lin,(by show 0<sizeLine;decide),?_⟩
 have kp2 :∀b o,H2 b=some o->b≠l2->upd H2 l2 (.lst (([gI (za9 (zD sh.2 q.a.toNat) q.p.toNat n d) 0]:List Int).map V.int)) b=some o:=fun b o hb hn=>by rw[zf hn];exact hb
 generalize hH2:upd H2 l2 (.lst (([gI (za9 (zD sh.2 q.a.toNat) q.p.toNat n d) 0]:List Int).map V.int))=H2' at kp2
 have hl2':H2' l2=some (.lst (([gI (za9 (zD sh.2 q.a.toNat) q.p.toNat n d) 0]:List Int).map V.int)):=by rw[<-hH2,zd]
 have nrl:r2≠l2:=S2.apart (by rw[zdj];omega)
 have S2':zae ⟨A.zR,A.zU,rt,m0+1⟩ H2' p2 r2 l2 as2 (zP d sh) [gI (za9 (zD sh.2 q.a.toNat) q.p.toNat n d) 0]:=
  ⟨⟨dx2,c2',kp2 _ _ hp3 npl,hcs.keep (fun a c dx fs h=>kp2 _ _ h (zI h S2.lin (by intro z;cases z))) (fun a kvs h=>kp2 _ _ h (zI h S2.lin (by intro z;cases z)))⟩,kp2 _ _ S2.rows nrl,S2.row.mono fun a o ha he=>kp2 a o he fun z=>S2.sep (z▸ha),hl2',S2.sep⟩
 have hu2':H2' u=some (.ins A.zaH du (zen q)):=kp2 _ _ hu2 (zI hu2 S2.lin (by intro z;cases z))
 have hg2':=kp2 _ _ hg2 ngl
 have s12:zq H H2':=fun b o hb=>kp2 b o (s2 _ _ (s1 _ _ hb)) (fun z=>by rw[z,s1.free hl2]at hb;cases hb)
 have hp3':=kp2 _ _ hp3 npl
 show _
 rw[show([]:List Int).map V.int++[V.int (gI (za9 (zD sh.2 q.a.toNat) q.p.toNat n d) 0)]=([gI (za9 (zD sh.2 q.a.toNat) q.p.toNat n d) 0]:List Int).map V.int from rfl,hH2]
 refine zHd ?_;intro
 obtain⟨c2,hc4,hcm2,hc5,hc6⟩:=S2'.read ia2
 refine⟨_,rfl,p2,dx2,_,rfl,hp3',zdx _ _ _ _,_,rfl,u,_,du,_,_,rfl,hu2',T.zG,T.zaA,zba q,_,rfl,p2,_,dx2,_,_,rfl,hp3',T.zz,T.z7,zap _ _ _ _,_,rfl,u,_,du,_,_,rfl,hu2',T.zG,T.zaA,zba q,r2,_,_,_,rfl,rfl,SqL.of S2'.rows,hc4,_,rfl,
  c2,g,_,_,rfl,SqL.of hc5,SqL.of hg2',by rw[hpl,hrl2],by omega,fun m H3 s3 hm hm1=>?_⟩
 have S3:=S2'.same s3
 have nml:m≠l2:=fun z=>zk S2'.lin hm z.symm
 have lm:(zbX (zD (zP d sh).2 q.a.toNat) (za9 (zD sh.2 q.a.toNat) q.p.toNat n d)).length=N:=by rw[zib (by rw[hpl,hrl2]),hrl2]
 refine⟨rt,m0+1,p2,q.a.toNat,m,r2,l2,as2,(zP d sh),_,_,(by rw[<-ea];rfl),S3,(zaV ia2).2,hm1,by omega,nml,by simp,fun H4 S4 kp=>?_⟩
 have ng4:g≠r2:=zI hg2' S2'.rows (ze1 (by omega))
 have nu4:u≠r2:=zI hu2' S2'.rows (by intro z;cases z)
 have nu5:u≠l2:=zI hu2' S2'.lin (by intro z;cases z)
 have hu4:=kp _ _ (s3 _ _ hu2') nu4 nu5
 have hg4:=kp _ _ (s3 _ _ hg2') ng4 ngl
 have s14:zq H H4:=fun b o hb=>kp b o (s3 _ _ (s12 _ _ hb)) (fun z=>by rw[z,s1.free hr2]at hb;cases hb) (fun z=>by rw[z,s1.free hl2]at hb;cases hb)
 refine zHd ?_;intro
 obtain⟨dx4,_,hp4,_⟩:=S4.ins
 have ib4:0<=q.b/\q.b<(zdV q.a.toNat (zbX (zD (zP d sh).2 q.a.toNat) (za9 (zD sh.2 q.a.toNat) q.p.toNat n d)) (zP d sh)).2.length:=by rw[zsJ,zdj];exact I.b
 obtain⟨c4,hc7,hcm4,hc8,hc9⟩:=S4.read ib4
 have hrl4:(zD (zdV q.a.toNat (zbX (zD (zP d sh).2 q.a.toNat) (za9 (zD sh.2 q.a.toNat) q.p.toNat n d)) (zP d sh)).2 q.b.toNat).length=N:=zuA (zhE I.len) lm _ (zb9 (zaV ib4).2)
 refine⟨_,rfl,p2,dx4,_,rfl,hp4,zdx _ _ _ _,_,rfl,u,_,du,_,_,rfl,hu4,T.zG,T.zcM,zeG q,_,rfl,p2,_,dx4,_,_,rfl,hp4,T.zz,T.z7,zap _ _ _ _,_,rfl,u,_,du,_,_,rfl,hu4,T.zG,T.zcM,zeG q,r2,_,_,_,rfl,rfl,SqL.of S4.rows,hc7,_,rfl,
  c4,g,_,_,rfl,SqL.of hc8,SqL.of hg4,by rw[hpl,hrl4],by omega,fun m5 H5 s5 hm5 hm6=>?_⟩
 have S5:=S4.same s5
 have nml5:m5≠l2:=fun z=>zk S4.lin hm5 z.symm
 refine⟨rt,m0+1,p2,q.b.toNat,m5,r2,l2,_,_,_,_,(by rw[<-eb];rfl),S5,(zaV ib4).2,hm6,?_,nml5,by simp,fun H6 S6 kp6=>?_⟩
 ·rw[zgu (by rw[hpl,hrl4]),hrl4]
  omega
 refine⟨_,rfl,?_⟩
 exact k p2 r2 l2 _ H6 (fun b o hb=>kp6 b o (s5 _ _ (s14 _ _ hb)) (fun z=>by rw[z,s1.free hr2]at hb;cases hb) (fun z=>by rw[z,s1.free hl2]at hb;cases hb)) (s1.free hp2) (s1.free hr2) (s1.free hl2) S6
theorem zA2(T:Txt K mg A):zH P w K mg base CX0 45 A.zlo A.zrH ["sheet","rule","ratio"] (zgi K A.zR A.zU A.zaH 4 fun _ n d sh q=>pullS q.a.toNat q.b.toNat q.p.toNat n d sh):=by
 have zh9:=(@zlX P w K mg base A T).up 44
 have zbZ:=@zd3 P w K mg base A T
 have zbB:=(@zd2 P w K mg base A T).up 44
 have zj0:=(@zok P w K mg base A T).up 44
 refine T.zrR.ok zrh (fun vs H Q E h=>zeH h) (fun cdv A' outer s H vs Q E hr h=>?_)
 obtain⟨rt,m0,p,r,l,as,sh,lines,u,q,ra,n,d,N,rfl,S,hm0,hu,hra,hix,I,hkd,hnz,k⟩:=h
 have on:=I.one
 have wd:=I.wid
 have ip:=I.p
 refine zQa (qD 3 zrh.nd (zw zh9 hr rfl T.zmm T.zgT.kp T.zn4 .nil zj (za (zu zA (zg (pv 0) rfl) (zg (pv 1) rfl) (fun _ _=>rfl)) (za (zg (pv 1) rfl) (za (pv 2) zc))))) (zQc (qD 4 zrh.nd (zw zbZ hr rfl T.zeb T.zcL.kp T.zeJ .nil zj (za (pv 0) (za (zu z6 (pv 2) zi (fun _ _=>rfl)) zc)))) (zQc (zay (zeh PySem.F.plainAttrs_list PySem.F.slot_list_append PySem.F.type_list_append zdt (zg (pv 4) rfl) (za (zu zA (pv 3) zi (fun _ _=>rfl)) zc))) (zQc (zay (zp (pv 4) T.zz T.zcK zbB hr T.zc7 .nil zj (za (zg (pv 1) rfl) (za (zw zj0 hr rfl T.zor T.zi1.kp T.zqY .nil zj (za (zu zA (zg (pv 4) rfl) (zg (pv 1) rfl) (fun _ _=>rfl)) (za (pv 3) zc))) zc)))) (zQl (zh (zo (pv 4))) ?_))));intros
 have few:=I.few
 refine zHd ?_;intro
 obtain⟨ea,la⟩:=zaV I.a
 obtain⟨eb,lb⟩:=zaV I.b
 have ep:q.p=((q.p.toNat:Nat):Int):=by omega
 have hdn:=I.d
 have hnn:=I.n
 obtain⟨dx,_,hp,_⟩:=S.ins
 have hu':=hu
 obtain⟨du,hu0⟩:=hu
 have hrl:(zD sh.2 q.b.toNat).length=N:=I.len _ (zb9 lb)
 obtain⟨c,hc,hcm,hc2,hc3⟩:=S.read I.b
 refine⟨_,rfl,p,_,dx,_,_,rfl,hp,T.zz,T.z7,zap _ _ _ _,_,rfl,u,_,du,_,_,rfl,hu0,T.zG,T.zcM,zeG q,r,_,_,_,rfl,rfl,SqL.of S.rows,hc,_,rfl,u,_,du,_,_,rfl,hu0,T.zG,T.zbf,zca q,_,rfl,?_⟩
 refine⟨c,zD sh.2 q.b.toNat,q.p.toNat,ra,n,d,(by rw[<-ep];rfl),SqL.of hc2,hra,by omega,by omega,by omega,(I.sz.rowAt _).mono (by decide),by omega,by omega,fun g H1 s1 hg hg1=>?_⟩
 refine⟨_,rfl,_,rfl,ra,_,_,_,rfl,rfl,s1.seqT hra,rfl,rt,m0,p,r,l,as,sh,lines,d,rfl,S.same s1,hm0,I.pos,I.acc,I.st.1,I.st.2,by omega,fun p2 r2 l2 as2 H2 s2 hp2 hr2 hl2 S2=>?_⟩
 have ia2:0<=q.a/\q.a<(zP d sh).2.length:=by rw[zdj];exact I.a
 refine zHd ?_;intro
 obtain⟨dx2,c2',hp3,hcs⟩:=S2.ins
 have hg2:=s2 _ _ hg1
 have hu2:=s2 _ _ (s1 _ _ hu0)
 have hrl2:(zD (zP d sh).2 q.a.toNat).length=N:=zhE I.len _ (zb9 (zaV ia2).2)
 have hpl:(za9 (zD sh.2 q.b.toNat) q.p.toNat n d).length=N:=by rw[zgt];exact hrl
 have g0:0<(za9 (zD sh.2 q.b.toNat) q.p.toNat n d).length:=by omega
 have ngl:g≠l2:=zk hg1 hl2
 have npl:p2≠l2:=zI hp3 S2.lin (by intro z;cases z)
 refine⟨_,rfl,p2,_,dx2,_,_,rfl,hp3,T.zz,T.zed,zgD _ _ _ _,.inl ⟨rfl,_,SqL.of S2.lin⟩,_,rfl,g,_,_,_,rfl,rfl,SqL.of hg2,zb8 (zbh (zd1 g0)),l2,_,_,rfl,rfl,S2.lin,(by show 0<sizeLine;decide),?_⟩
 have kp2 :∀b o,H2 b=some o->b≠l2->upd H2 l2 (.lst (([gI (za9 (zD sh.2 q.b.toNat) q.p.toNat n d) 0]:List Int).map V.int)) b=some o:=fun b o hb hn=>by rw[zf hn];exact hb
 generalize hH2:upd H2 l2 (.lst (([gI (za9 (zD sh.2 q.b.toNat) q.p.toNat n d) 0]:List Int).map V.int))=H2' at kp2
 have hl2':H2' l2=some (.lst (([gI (za9 (zD sh.2 q.b.toNat) q.p.toNat n d) 0]:List Int).map V.int)):=by rw[<-hH2,zd]
 have nrl:r2≠l2:=S2.apart (by rw[zdj];omega)
 have S2':zae ⟨A.zR,A.zU,rt,m0+1⟩ H2' p2 r2 l2 as2 (zP d sh) [gI (za9 (zD sh.2 q.b.toNat) q.p.toNat n d) 0]:=
  ⟨⟨dx2,c2',kp2 _ _ hp3 npl,hcs.keep (fun a c dx fs h=>kp2 _ _ h (zI h S2.lin (by intro z;cases z))) (fun a kvs h=>kp2 _ _ h (zI h S2.lin (by intro z;cases z)))⟩,kp2 _ _ S2.rows nrl,S2.row.mono fun a o ha he=>kp2 a o he fun z=>S2.sep (z▸ha),hl2',S2.sep⟩
 have hu2':H2' u=some (.ins A.zaH du (zen q)):=kp2 _ _ hu2 (zI hu2 S2.lin (by intro z;cases z))
 have hg2':=kp2 _ _ hg2 ngl
 have s12:zq H H2':=fun b o hb=>kp2 b o (s2 _ _ (s1 _ _ hb)) (fun z=>by rw[z,s1.free hl2]at hb;cases hb)
 have hp3':=kp2 _ _ hp3 npl
 show _
 rw[show([]:List Int).map V.int++[V.int (gI (za9 (zD sh.2 q.b.toNat) q.p.toNat n d) 0)]=([gI (za9 (zD sh.2 q.b.toNat) q.p.toNat n d) 0]:List Int).map V.int from rfl,hH2]
 refine zHd ?_;intro
 obtain⟨c2,hc4,hcm2,hc5,hc6⟩:=S2'.read ia2
 refine⟨_,rfl,p2,dx2,_,rfl,hp3',zdx _ _ _ _,_,rfl,u,_,du,_,_,rfl,hu2',T.zG,T.zaA,zba q,_,rfl,p2,_,dx2,_,_,rfl,hp3',T.zz,T.z7,zap _ _ _ _,_,rfl,u,_,du,_,_,rfl,hu2',T.zG,T.zaA,zba q,r2,_,_,_,rfl,rfl,SqL.of S2'.rows,hc4,_,rfl,
  c2,g,_,_,rfl,SqL.of hc5,SqL.of hg2',by rw[hpl,hrl2],by omega,fun m H3 s3 hm hm1=>?_⟩
 have S3:=S2'.same s3
 have nml:m≠l2:=fun z=>zk S2'.lin hm z.symm
 refine⟨rt,m0+1,p2,q.a.toNat,m,r2,l2,as2,zP d sh,_,_,(by rw[<-ea];rfl),S3,(zaV ia2).2,hm1,?_,nml,by simp,fun H4 S4 kp=>?_⟩
 ·rw[zgu (by rw[hpl,hrl2]),hrl2]
  omega
 refine⟨_,rfl,?_⟩
 exact k p2 r2 l2 _ H4 (fun b o hb=>kp b o (s3 _ _ (s12 _ _ hb)) (fun z=>by rw[z,s1.free hr2]at hb;cases hb) (fun z=>by rw[z,s1.free hl2]at hb;cases hb)) (s1.free hp2) (s1.free hr2) (s1.free hl2) S4
theorem zA3(T:Txt K mg A):zH P w K mg base CX0 45 A.zlp A.zrI ["sheet","rule","ratio"] (zgi K A.zR A.zU A.zaH 5 fun _ n d sh q=>overS q.a.toNat q.p.toNat n d sh):=by
 have zx1:=(@zvR P w K mg base A T).up 44
 have zbZ:=@zd3 P w K mg base A T
 have zbB:=(@zd2 P w K mg base A T).up 44
 refine T.zrS.ok zri (fun vs H Q E h=>zeH h) (fun cdv A' outer s H vs Q E hr h=>?_)
 obtain⟨rt,m0,p,r,l,as,sh,lines,u,q,ra,n,d,N,rfl,S,hm0,hu,hra,hix,I,hkd,hnz,k⟩:=h
 have on:=I.one
 have wd:=I.wid
 have ip:=I.p
 refine zQa (qD 3 zri.nd (zw zx1 hr rfl T.zv5 T.zkS.kp T.zxY .nil zj (za (zu zA (zg (pv 0) rfl) (zg (pv 1) rfl) (fun _ _=>rfl)) (za (zg (pv 1) rfl) (za (pv 2) zc))))) (zQc (qD 4 zri.nd (zw zbZ hr rfl T.zeb T.zcL.kp T.zeJ .nil zj (za (pv 0) (za (zaN ztH (by rfl) T.zza boot_abs (za (zu z6 (pv 2) zi (fun _ _=>rfl)) zc)) zc)))) (zQc (zay (zp (pv 4) T.zz T.zcK zbB hr T.zc7 .nil zj (za (zg (pv 1) rfl) (za (pv 3) zc)))) (zQl (zh (zo (pv 4))) ?_)));intros
 have few:=I.few
 refine zHd ?_;intro
 obtain⟨ea,la⟩:=zaV I.a
 obtain⟨eb,lb⟩:=zaV I.b
 have ep:q.p=((q.p.toNat:Nat):Int):=by omega
 have hdn:=I.d
 have hnn:=I.n
 obtain⟨dx,_,hp,_⟩:=S.ins
 have hu':=hu
 obtain⟨du,hu0⟩:=hu
 have hrl:(zD sh.2 q.a.toNat).length=N:=I.len _ (zb9 la)
 obtain⟨c,hc,hcm,hc2,hc3⟩:=S.read I.a
 refine⟨_,rfl,p,_,dx,_,_,rfl,hp,T.zz,T.z7,zap _ _ _ _,_,rfl,u,_,du,_,_,rfl,hu0,T.zG,T.zaA,zba q,r,_,_,_,rfl,rfl,SqL.of S.rows,hc,_,rfl,u,_,du,_,_,rfl,hu0,T.zG,T.zbf,zca q,_,rfl,?_⟩
 refine⟨c,zD sh.2 q.a.toNat,q.p.toNat,ra,n,d,(by rw[<-ep];rfl),SqL.of hc2,hra,by omega,by omega,by omega,(I.sz.rowAt _).mono (by decide),by omega,fun g H1 s1 hg hg1=>?_⟩
 have bnn:bI (zcG n)<=60000000:=by rw[zud];omega
 refine⟨_,rfl,_,rfl,ra,_,_,_,rfl,rfl,s1.seqT hra,rfl,n,rfl,rt,m0,p,r,l,as,sh,lines,zcG n,rfl,S.same s1,hm0,zlQ (hnz rfl),I.acc,I.st.1,I.st.2,bnn,fun p2 r2 l2 as2 H2 s2 hp2 hr2 hl2 S2=>?_⟩
 refine zHd ?_;intro
 obtain⟨dx2,c2',hp3,hcs⟩:=S2.ins
 have hg2:=s2 _ _ hg1
 have hu2:=s2 _ _ (s1 _ _ hu0)
 have ngl:g≠l2:=zk hg1 hl2
 have hpl:(zeP (zD sh.2 q.a.toNat) q.p.toNat n d).length=N:=by rw[znd];exact hrl
 refine⟨_,rfl,p2,dx2,_,rfl,hp3,zdx _ _ _ _,_,rfl,u,_,du,_,_,rfl,hu2,T.zG,T.zaA,zba q,_,rfl,
  rt,m0+1,p2,q.a.toNat,g,r2,l2,as2,zP (zcG n) sh,[],_,(by rw[<-ea];rfl),S2,(by rw[zdj];exact la),hg2,by omega,ngl,by decide,fun H4 S4 kp=>?_⟩
 refine⟨_,rfl,?_⟩
 have s12:zq H H2:=s1.trans s2
 exact k p2 r2 l2 _ H4 (fun b o hb=>kp b o (s12 _ _ hb) (fun z=>by rw[z,s1.free hr2]at hb;cases hb) (fun z=>by rw[z,s1.free hl2]at hb;cases hb)) (s1.free hp2) (s1.free hr2) (s1.free hl2) S4
inductive zs3(Cc Cs CR:Addr)(vs:List V)(H:Hp)(Q:VK)(E:XK):Prop|I:∀(rt:Addr) (m0:Nat) (p r l:Addr) (as:List Addr) (sh:Sh) (lines:List Int) (u:Addr) (q:zav) (n d:Int) (N:Nat),vs=[.ref p,.ref u]->zae ⟨Cc,Cs,rt,m0⟩ H p r l as sh lines->m0<=900->zeA CR H u q->RatIx H rt q.p.toNat n d->RuleIn N sh q n d->(0<=q.k/\q.k<=5)->(q.k=5->n≠0)->SheetQ ⟨Cc,Cs,rt,m0+1⟩ H (zdW N n d sh (zM q)).1 (zdW N n d sh (zM q)).2 Q->zs3 Cc Cs CR vs H Q E
theorem zs4(B:Bs P base)(T:Txt K mg A):zH P w K mg base CX0 46 A.zgJ A.zio ["sheet","rule"] (zs3 A.zR A.zU A.zaH):=by
 refine T.ziB.ok zmy (fun vs H Q E h=>?_) (fun cdv A' outer s H vs Q E hr h=>?_)
 ·obtain⟨rt,m0,p,r,l,as,sh,lines,u,q,n,d,N,rfl,_⟩:=h
  rfl
 ·obtain⟨rt,m0,p,r,l,as,sh,lines,u,q,n,d,N,rfl,S,hm0,hu,hix,I,hk,hnz,k⟩:=h
  refine zQa (qD 2 zmy.nd (zu z6 (zn9 (v:=.ref A.zlq) rfl T.zBj rfl) (zg (pv 1) rfl) (fun _ _=>rfl))) (zQl (zh (zo (zzu (pv 2) (za (pv 0) (za (pv 1) (za (zu zA (zg (pv 0) rfl) (zg (pv 1) rfl) (fun _ _=>rfl)) zc)))))) ?_);intros
  have hu':=hu
  obtain⟨du,hu0⟩:=hu
  obtain⟨dx,c0,hp,_⟩:=S.ins
  have hix':=hix
  obtain⟨qas,ra,hrt,hq,hra⟩:=hix
  have ep:q.p=((q.p.toNat:Nat):Int):=by have:=I.p;omega
  have hqr:atI (qas.map V.ref) q.p=some (V.ref ra):=zei ep (by rw[gEm,hq];rfl)
  have go :∀(f:Addr) (kd:Int) (res:Nat->Int->Int->Sh->zav->Sh×List Int),atI [V.ref A.zlm,V.ref A.zoq,V.ref A.zln,V.ref A.zi0,V.ref A.zlo,V.ref A.zlp] q.k=some (.ref f)->q.k=kd->
    (∃fd,zH P w K mg base CX0 45 f fd ["sheet","rule","ratio"] (zgi K A.zR A.zU A.zaH kd res)/\L2.zE K fd ["sheet","rule","ratio"] []/\PySem.W.keepIn K (.ref f)=true)->res N n d sh q=zdW N n d sh (zM q)->
    tSeq (tAsg (tOp (rIxT K) (tC (.ref A.zlq)) (tFld K (zbd 1) "kind")) (zgp 2)) (tRet (tCallV (cxOf CX0 P w K mg base ["sheet","rule","work"] "after_rule" (zm zjj) A.zgJ cdv A' outer s H E).nox (zbd 2) (zc0 (zbd 0) (zc0 (zbd 1) (zc0 (tOp (rIxL K) (tFld K (zbd 0) "ratios") (tFld K (zbd 1) "p")) zdf))))) {nx:=fun _ H'=>Q .non H',rt:=Q} (L2.start ["sheet","rule","work"] [.ref p,.ref u]) H:=by
   intro f kd res hf hkd F e
   refine zHd ?_;intro
   obtain⟨fd,F1,F2,F3⟩:=F
   refine⟨_,rfl,u,_,du,_,_,rfl,hu0,T.zG,T.zbK,zbE q,A.zlq,_,q.k,_,rfl,rfl,T.zBk H,hf,?_⟩
   refine⟨_,rfl,f,_,rfl,⟨45,fd,_,F1,hr,F2,F3⟩,_,rfl,_,rfl,_,rfl,p,_,dx,_,_,rfl,hp,T.zz,T.zbU,zcV _ _ _ _,_,rfl,u,_,du,_,_,rfl,hu0,T.zG,T.zbf,zca q,rt,_,_,_,rfl,rfl,SqL.of hrt,hqr,?_⟩
   exact⟨rt,m0,p,r,l,as,sh,lines,u,q,ra,n,d,N,rfl,S,hm0,hu',SqT.of hra,hix',I,hkd,fun z=>hnz (by omega),by rw[e];exact k⟩
  have hk6:q.k=0\/q.k=1\/q.k=2\/q.k=3\/q.k=4\/q.k=5:=by omega
  rcases hk6 with e|e|e|e|e|e
  ·exact go A.zlm _ _ (by rw[e];rfl) e ⟨_,zA0 T,T.zB6,T.zrP.kp⟩ (by unfold zM;rw[if_pos e];rfl)
  ·exact go A.zoq _ _ (by rw[e];rfl) e ⟨_,zBS B T,T.zCh,T.zu6.kp⟩ (by unfold zM;rw[if_neg (by omega),if_pos e];rfl)
  ·exact go A.zln _ _ (by rw[e];rfl) e ⟨_,zA1 B T,T.zB7,T.zrQ.kp⟩ (by unfold zM;rw[if_neg (by omega),if_neg (by omega),if_pos e];rfl)
  ·exact go A.zi0 _ _ (by rw[e];rfl) e ⟨_,zzR T,T.zBn,T.zpR.kp⟩ (by unfold zM;rw[if_neg (by omega),if_neg (by omega),if_neg (by omega),if_pos e];rfl)
  ·exact go A.zlo _ _ (by rw[e];rfl) e ⟨_,zA2 T,T.zB8,T.zrR.kp⟩ (by unfold zM;rw[if_neg (by omega),if_neg (by omega),if_neg (by omega),if_neg (by omega),if_pos e];rfl)
  ·exact go A.zlp _ _ (by rw[e];rfl) e ⟨_,zA3 T,T.zB9,T.zrS.kp⟩ (by unfold zM;rw[if_neg (by omega),if_neg (by omega),if_neg (by omega),if_neg (by omega),if_neg (by omega)];rfl)
theorem zam.get{H:Hp} :∀{as:List Addr} {qs:List Rat} {i:Nat} {a:Addr},zam H as qs->as[i]? = some a->∃q,qs[i]? = some q/\H a=some (qT q)
 | _,_,_,_,.nil,e=>by simp at e
 | _,_,0,_,.cons g _,e=>by simp at e;subst e;exact⟨_,rfl,g⟩
 | _,_,i+1,_,.cons _ t,e=>by
  obtain⟨q,h1,h2⟩:=zam.get (i:=i) t (by simpa using e)
  exact⟨q,by simpa using h1,h2⟩
def zcd(x:Int):Option Nat:=if x<0 then none else some x.toNat
def zd4(C:Addr)(H:Hp)(p:Addr)(n N:Nat)(b r:Addr):Prop:=∃dx,H p=some (.ins C dx (zcP (n:Int) (N:Int) b r))
structure ValsIn(N:Nat)(ps:List Rat):Prop where
 len:ps.length=N
 few:N<=49
 sz :∀q,q∈ps->bI q.num<=100000/\bI (q.den:Int)<=100000
theorem zae.setRow{C:SC}{H:Hp}{p r l:Addr}{as:List Addr}{sh:Sh}{lines:List Int}(S:zae C H p r l as sh lines){a:Nat}{g:Addr}{row:List Int}(ha:a<sh.2.length)(hg:H g=some (.lst (row.map V.int)))(h0:0<row.length)(hne:g≠l) :
  zae C (upd H r (.lst ((as.set a g).map V.ref))) p r l (as.set a g) (zdV a row sh) lines:=by
 obtain⟨dx,c,hp,hc⟩:=S.ins
 have kp :∀b o,H b=some o->b≠r->upd H r (.lst ((as.set a g).map V.ref)) b=some o:=fun b o hb h=>by rw[zf h];exact hb
 have nlr:l≠r:=fun z=>S.apart (by omega) z.symm
 refine⟨⟨dx,c,kp _ _ hp (zI hp S.rows (by intro z;cases z)),hc.keep (fun a c dx fs h=>kp _ _ h (zI h S.rows (by intro z;cases z))) (fun a kvs h=>kp _ _ h (zI h S.rows (by intro z;cases z)))⟩,zd,(S.row.set hg h0 a).upd_refs S.rows,kp _ _ S.lin nlr,fun hm=>?_⟩
 rcases List.mem_or_eq_of_mem_set hm with q|q
 ·exact S.sep q
 ·exact hne q.symm
theorem zal.repl{H:Hp}{a:Addr}{row:List Int}(h:H a=some (.lst (row.map V.int)))(h0:0<row.length) :∀(n:Nat),zal H (List.replicate n a) (List.replicate n row)
 | 0=>.nil
 | n+1=>.cons ⟨h,h0⟩ (zal.repl h h0 n)
theorem zzS{c:Bool}{t1 t2:TE}{σ:L2.St}{H:Hp}{Q:VK}(v:V)(h1:c=true->∀R:VK,R v H->t1 σ H R)(h2:c=false->∀R:VK,R v H->t2 σ H R)(h:Q v H):if c=true then t1 σ H Q else t2 σ H Q:=by
 cases c with
 | true=>exact zaY (h1 rfl Q h)
 | false=>exact zaT (h2 rfl Q h)
theorem zxC{C:SC}{H H':Hp}{S:Int}{c r l:Addr}{as:List Addr}{rows:List (List Int)}{x dx:Addr}(hc:zbz C.s H c S C.m)(hr:H r=some (.lst (as.map V.ref)))(R:zal H as rows)(hx:H x=none)(hd:H dx=none)
  (hl:upd (upd H dx (.own x)) x (.ins C.c dx []) l=none) (hx':H' x=some (.ins C.c dx (zcc C.rt c r l))) (hl':H' l=some (.lst [])) (kp :∀b o,upd (upd H dx (.own x)) x (.ins C.c dx []) b=some o->b≠x->H' b=some o) :
  zq H H'/\H l=none/\zae C H' x r l as (S,rows) []:=by
 have nlx:l≠x:=fun z=>by rw[z,zd]at hl;cases hl
 have nld:l≠dx:=fun z=>by rw[zf nlx,z,zd]at hl;cases hl
 have hlH:H l=none:=by rw[zf nlx,zf nld]at hl;exact hl
 have s:zq H H':=fun b o hb=>kp b o (by rw[zf (zk hb hx),zf (zk hb hd)];exact hb) (zk hb hx)
 refine⟨s,hlH,⟨dx,c,hx',hc.same s⟩,s _ _ hr,R.same s,hl',fun hm=>?_⟩
 obtain⟨row,_,h1,_⟩:=R.mem hm
 rw[hlH]at h1
 cases h1
def zat(b:Bool)(N:Nat):Nat:=if b=true then N+1 else 1
inductive zro(Cc Cs CP:Addr)(vs:List V)(H:Hp)(Q:VK)(E:XK):Prop|I:∀(pl rs b r:Addr) (n N:Nat) (bs:List Int) (qas:List Addr) (ps:List Rat) (sl:Bool),vs=[.ref pl,.ref rs,.bl sl]->zd4 CP H pl n N b r->H b=some (.lst (bs.map V.int))->H rs=some (.lst (qas.map V.ref))->zam H qas ps->ValsIn N ps->bs.length=n->n<=50->(∀x,x∈bs->-1<=x/\x<N)->SheetQ ⟨Cc,Cs,rs,1⟩ H (zaq ps,(bs.map zcd).map (zcl ps (zat sl N))) [] Q->zro Cc Cs CP vs H Q E
theorem zrp(B:Bs P base)(T:Txt K mg A):zH P w K mg base CX0 44 A.zin A.zhj ["plan","ratios","has_slopes"] (zro A.zR A.zU A.zbY):=by
 have zev:=zgg (w:=w) B T
 have zfQ:=(zjo (w:=w) B T).up 43
 have zgX:=(@zmJ P w K mg base A T).up 42
 have zjZ:=(@zmH P w K mg base A T).up 42
 refine T.zht.ok zda (fun _ _ _ _ h=>?_) fun _ _ _ s H vs Q E hr h=>?_
 ·obtain⟨pl,rs,b,r,n,N,bs,qas,ps,sl,rfl,_⟩:=h
  rfl
 ·obtain⟨pl,rs,b,r,n,N,bs,qas,ps,sl,rfl,⟨dp,hpl⟩,hb,hrs,hqs,Vi,hbn,hn5,hbs,k⟩:=h
  refine zQa (qD 3 zda.nd (zw zev hr rfl T.zgl T.zcR.kp T.zgW .nil zj (za (pv 1) zc))) (zQc (qD 4 zda.nd (zlF (zaG (pv 2) (fun _=>rfl)) (zW zb7 zi (zg (pv 0) rfl)) zi)) (zQc (qD 5 zda.nd (zc8 T.zpP zgX hr rfl T.zpM T.zjX .nil zj (za (pv 1) (za (zc8 T.zu5 zjZ hr rfl T.zuY T.zn3 .nil zj (za (pv 3) (za (zAy (zzm (pv 3) zi zAx) rfl rfl (by simp) (by decide)) zc))) (za (zW ztN (zL (za (zW ztN (zL (za zi zc)) (pv 4)) zc)) (zg (pv 0) rfl)) zc))))) (zQc (zde PassesOwn.never rfl (zAA rfl T.zn0 (za (zg (pv 0) rfl) zc)) (zhI (n:=2) rfl (zbP (zag (i:=6) zda.nd rfl (Or.inl rfl)) (zbP (zag (i:=7) zda.nd rfl (Or.inl rfl)) zga))) (zh (zY (z5 zAf (pv 7) zi (nomark _)) (zh (zkX (zw zfQ hr rfl T.zjM T.zfd.kp T.zkT .nil zj (za (pv 5) (za (pv 7) (za (pv 4) zc)))) (zkW (zg (pv 5) rfl) (pv 6) zeV))) zJ))) (zQl (zh (zo (pv 5))) ?_))));intros
  have few:=Vi.few
  have hl49:=Vi.len
  refine zHd ?_;intro
  obtain⟨sp1,_,sp3⟩:=ziS ps 1 (by decide)
  have hsp:0<zaq ps:=sp1
  have hss:bI (zaq ps)<=1+ps.length*100000:=zpw ps 1 1 (by decide) (by decide) fun q hq=>(Vi.sz q hq).2
  have hss':ps.length*100000<=49*100000:=Nat.mul_le_mul_right _ (by omega)
  have hden:zbo (ps.map ndQ)=zaq ps:=zyY ps
  have hq900 :∀p,p∈ps.map ndQ->0<p.2/\bI p.2<=900000:=fun p hp=>by
   rw[List.mem_map]at hp
   obtain⟨q,hq,rfl⟩:=hp
   exact⟨Int.natCast_pos.mpr q.den_pos,nLt (Vi.sz q hq).2 (by decide)⟩
  refine⟨_,rfl,rs,qas,ps.map ndQ,rfl,SqL.of hrs,hqs.pr,by rw[lmm];omega,hq900,?_⟩
  rw[hden]
  have hW0:0<zat sl N:=by unfold zat;split<;>omega
  have hW5:zat sl N<=50:=by unfold zat;split<;>omega
  refine⟨_,rfl,_,rfl,?_⟩
  refine zzS (.int (zat sl N:Int)) (fun e R hR=>?_) (fun e R hR=>?_) ?_
  ·refine⟨_,rfl,pl,_,dp,_,_,rfl,hpl,T.zaI,T.zac,zaw _ _ _ _,_,_,rfl,rfl,?_⟩
   rw[show zat sl N=N+1 from if_pos e]at hR
   show R (V.int (1+(N:Int))) H
   rw[show(1+(N:Int))=((N+1:Nat):Int) by omega]
   exact hR
  ·rw[show zat sl N=1 from if_neg (by rw[e];decide)]at hR
   exact hR
  refine⟨_,rfl,_,rfl,fun d1 hd1=>?_⟩
  refine⟨_,rfl,zd,[(Sum.inl (zaq ps),V.int 1)],rfl,(by show 1<=15;decide),?_⟩
  rw[zaS]
  have e1:zkZ [] [((Sum.inl (zaq ps):Key),V.int 1)]=zbS [(zaq ps,1)]:=rfl
  rw[e1]
  have s1:zq H (upd H d1 (.dK (zbS [(zaq ps,1)]))):=zl hd1
  intro c dc hc hdc hnc
  refine⟨c,dc,zaq ps,d1,rfl,zd,rfl,?_⟩
  rw[zaS]
  have s2:zq (upd H d1 (.dK (zbS [(zaq ps,1)]))) (upd (upd (upd H d1 (.dK (zbS [(zaq ps,1)]))) dc (.own c)) c (.ins A.zU dc (zdv (zaq ps) d1))):=fun b o hb=>by rw[zf (zk hb hc),zf (zk hb hdc)];exact hb
  have Sc:zbz A.zU (upd (upd (upd H d1 (.dK (zbS [(zaq ps,1)]))) dc (.own c)) c (.ins A.zU dc (zdv (zaq ps) d1))) c (zaq ps) 1:=⟨dc,d1,_,zd,s2 _ _ zd,zfm.one hsp⟩
  generalize upd (upd (upd H d1 (.dK (zbS [(zaq ps,1)]))) dc (.own c)) c (.ins A.zU dc (zdv (zaq ps) d1))=H2 at s2 Sc⊢
  have s12:zq H H2:=s1.trans s2
  refine⟨zbC,fun z hz=>?_⟩
  refine⟨_,rfl,z,(zat sl N:Int),_,rfl,rfl,zd,by omega,by omega,?_,fun l hl=>?_⟩
  ·show 1*(zat sl N:Int).toNat<=sizeLine
   rw[sizeLine_eq]
   omega
  rw[zpD,Int.toNat_natCast]
  have t3:zq H2 (upd H2 z (.lst [.int 0])):=zl hz
  have t4:zq H2 (upd (upd H2 z (.lst [.int 0])) l (.lst (List.replicate (zat sl N) (V.int 0)))):=t3.trans (zl hl)
  have e0:List.replicate (zat sl N) (V.int 0)=(List.replicate (zat sl N) (0:Int)).map V.int:=by rw[List.map_replicate]
  rw[e0]at t4⊢
  have hl4:upd (upd H2 z (.lst [.int 0])) l (.lst ((List.replicate (zat sl N) (0:Int)).map V.int)) l=some (.lst ((List.replicate (zat sl N) (0:Int)).map V.int)):=zd
  generalize upd (upd H2 z (.lst [.int 0])) l (.lst ((List.replicate (zat sl N) (0:Int)).map V.int))=H4 at t4 hl4⊢
  refine⟨zbC,fun z2 hz2=>?_⟩
  have t5:zq H4 (upd H4 z2 (.lst [.ref l])):=zl hz2
  refine⟨_,rfl,pl,_,dp,_,_,rfl,t5 _ _ (t4 _ _ (s12 _ _ hpl)),T.zaI,T.zbL,zby _ _ _ _,z2,(n:Int),_,rfl,rfl,zd,by omega,by omega,?_,fun r2 hr2=>?_⟩
  ·show 1*(n:Int).toNat<=sizeLine
   rw[sizeLine_eq]
   omega
  rw[zpD,Int.toNat_natCast]
  have e2:List.replicate n (V.ref l)=(List.replicate n l).map V.ref:=by rw[List.map_replicate]
  rw[e2]
  have t6:zq H4 (upd (upd H4 z2 (.lst [.ref l])) r2 (.lst ((List.replicate n l).map V.ref))):=t5.trans (zl hr2)
  have hr6:upd (upd H4 z2 (.lst [.ref l])) r2 (.lst ((List.replicate n l).map V.ref)) r2=some (.lst ((List.replicate n l).map V.ref)):=zd
  have hr2H:H r2=none:=s12.free (t4.free (t5.free hr2))
  generalize upd (upd H4 z2 (.lst [.ref l])) r2 (.lst ((List.replicate n l).map V.ref))=H6 at t6 hr6⊢
  have s6:zq H H6:=s12.trans (t4.trans t6)
  intro x dx hx hdx hne
  have h0W:0<(List.replicate (zat sl N) (0:Int)).length:=by rw[List.length_replicate];exact hW0
  refine⟨x,dx,rs,c,r2,rfl,zd,fun l3 H7 hl7 hx7 hl8 kp7=>⟨rfl,?_⟩⟩
  refine zHd ?_;intro
  obtain⟨t7,hl3,S7⟩:=zxC (C:=⟨A.zR,A.zU,rs,1⟩) (Sc.same (t4.trans t6)) hr6 (zal.repl (t6 _ _ hl4) h0W n) hx hdx hl7 hx7 hl8 kp7
  have s7:zq H H7:=s6.trans t7
  have hxH:=s6.free hx
  have hl3H:=s6.free hl3
  refine⟨_,rfl,pl,_,dp,_,_,rfl,s7 _ _ hpl,T.zaI,T.zhu,zny _ _ _ _,b,_,rfl,SqL.of (s7 _ _ hb),?_⟩
  refine zzA (K:=K) (a:=b) (xs:=bs.map V.int) (fun i σ H'=>∃(v6 v7:Option V) (as:List Addr),σ = [some (.ref pl),some (.ref rs),some (.bl sl),some (.int (zaq ps)),some (.int (zat sl N:Int)),some (.ref x),v6,v7]/\zq H H'/\
   zae ⟨A.zR,A.zU,rs,1⟩ H' x r2 l3 as (zaq ps,(bs.take i).map (fun y=>zcl ps (zat sl N) (zcd y))++List.replicate (n-i) (List.replicate (zat sl N) 0)) [])
   ⟨none,none,_,rfl,s7,S7⟩ (fun i σ H' _ ⟨_,_,_,_,s,_⟩=>s.seq (SqL.of hb)) ?_ ?_
  ·rintro i v T' σ H' hv hT ⟨v6,v7,as,rfl,s8,S8⟩
   refine zHd ?_;intro
   obtain⟨y,hy,rfl⟩:=zgC hv
   have hi:i<bs.length:=(List.getElem?_eq_some_iff.mp hy).1
   have hyb:=hbs y (mge hy)
   have t9:zq H' (upd H' T' (.tup [.int (i:Int),.int y])):=zl hT
   have hlen:((bs.take i).map fun y=>zcl ps (zat sl N) (zcd y)).length=i:=by rw[lmm,List.length_take];omega
   have erep:List.replicate (n-i) (List.replicate (zat sl N) (0:Int))=List.replicate (zat sl N) 0::List.replicate (n-(i+1)) (List.replicate (zat sl N) 0):=by
    rw[show n-i=(n-(i+1))+1 by omega,List.replicate_succ]
   refine⟨T',_,rfl,SqT.of zd,rfl,_,_,rfl,_,_,rfl,rfl,_,rfl,_,_,rfl,rfl,_,rfl,?_⟩
   refine zaZ (fun e=>?_) (fun e=>?_)
   ·have e3:0<=y:=by have:=oDt e;omega
    have ey:y=((y.toNat:Nat):Int):=by omega
    have hjl:y.toNat<qas.length:=by rw[hqs.length];omega
    refine zHd ?_;intro
    obtain⟨q,hq1,hq2⟩:=hqs.get (i:=y.toNat) (gge hjl)
    have hqm:=mge hq1
    have eg:Sp.get ps y.toNat=q:=by unfold Sp.get;rw[gDm,hq1];rfl
    have ef:zcl ps (zat sl N) (zcd y)=zbu (zaq ps) (zat sl N) y.toNat q.num (q.den:Int):=by
     rw[show zcd y=some y.toNat from if_neg (by omega)]
     show zbu _ _ _ (Sp.get ps y.toNat).num _=_
     rw[eg]
    have S9:=S8.same t9
    have hsz:=Vi.sz q hqm
    refine⟨_,rfl,_,rfl,_,rfl,rs,1,x,r2,l3,as,_,[],y.toNat,zat sl N,q.num,(q.den:Int),(by rw[<-ey];rfl),S9,⟨qas,_,t9 _ _ (s8 _ _ hrs),gge hjl,t9 _ _ (s8 _ _ hq2)⟩,Int.natCast_pos.mpr q.den_pos,sp3 q hqm,hW0,?_,hW5,?_,by omega,fun g H9 t10 hg hg9=>?_⟩
    ·intro h1
     unfold zat at h1⊢
     split at h1<;>split<;>omega
    ·show bI (zaq ps)<=_
     omega
    have S10:=S9.same t10
    refine zHd ?_;intro
    obtain⟨dx9,c9,hx9,_⟩:=S10.ins
    refine⟨_,rfl,x,_,dx9,_,_,rfl,hx9,T.zz,T.z7,zap _ _ _ _,_,rfl,r2,_,(i:Int),i,rfl,rfl,S10.rows,zgh (by rw[lmm,S10.len];show i<List.length (_++_);rw[lEa,hlen,List.length_replicate];omega),?_⟩
    have hs10:zq H H9:=s8.trans (t9.trans t10)
    refine⟨_,_,as.set i g,rfl,fun b' o hb'=>?_,?_⟩
    ·rw[zf (zk hb' hr2H)]
     exact hs10 _ _ hb'
    ·have S11:=S10.setRow (a:=i) (g:=g) (row:=zbu (zaq ps) (zat sl N) y.toNat q.num (q.den:Int)) (by show i<List.length (_++_);rw[lEa,hlen,List.length_replicate];omega) hg9 (by rw[zfU];exact hW0) (fun z=>zk S9.lin hg z.symm)
     have e5:(as.map V.ref).set i (V.ref g)=(as.set i g).map V.ref:=by rw[List.map_set]
     rw[e5]
     have e6:zdV i (zbu (zaq ps) (zat sl N) y.toNat q.num (q.den:Int)) (zaq ps,(bs.take i).map (fun y=>zcl ps (zat sl N) (zcd y))++List.replicate (n-i) (List.replicate (zat sl N) 0))=(zaq ps,(bs.take (i+1)).map (fun y=>zcl ps (zat sl N) (zcd y))++List.replicate (n-(i+1)) (List.replicate (zat sl N) 0)):=by
      unfold zdV
      rw[Pr.zab hy,lMa,erep]
      have :∀(l1:List (List Int)) (u v:List Int) (l2:List (List Int)),l1.length=i->(l1++u::l2).set i v=l1++[v]++l2:=fun l1 u v l2 hl=>by
       rw[List.set_append,if_neg (by omega),hl,Nat.sub_self,lAa]
       rfl
      rw[this _ _ _ _ hlen,<-ef]
      rfl
     rw[e6]at S11
     exact S11
   ·have e3:y<0:=by
     have:¬(0<=y):=fun z=>e (decide_eq_true (by omega))
     omega
    refine⟨_,_,as,rfl,s8.trans t9,?_⟩
    have e6:(bs.take (i+1)).map (fun y=>zcl ps (zat sl N) (zcd y))++List.replicate (n-(i+1)) (List.replicate (zat sl N) 0)=(bs.take i).map (fun y=>zcl ps (zat sl N) (zcd y))++List.replicate (n-i) (List.replicate (zat sl N) 0):=by
     rw[Pr.zab hy,lMa,erep,lAa]
     have:zcl ps (zat sl N) (zcd y)=List.replicate (zat sl N) 0:=by rw[show zcd y=none from if_pos e3];rfl
     show _++([zcl ps (zat sl N) (zcd y)]++_)=_
     rw[this]
     rfl
    rw[e6]
    exact S8.same t9
  ·rintro σ H' ⟨v6,v7,as,rfl,s8,S8⟩
   refine⟨_,rfl,k x r2 l3 as H' s8 hxH hr2H hl3H ?_⟩
   rw[tOl (by rw[lmm];exact nLr _),lmm,hbn,Nat.sub_self,List.replicate_zero,List.append_nil]at S8
   rw[List.map_map]
   exact S8
inductive zox(Cc Cs:Addr)(vs:List V)(H:Hp)(Q:VK)(E:XK):Prop|I:∀(rt:Addr) (m:Nat) (p r l:Addr) (as:List Addr) (sh:Sh) (lines:List Int),vs=[.ref p]->zae ⟨Cc,Cs,rt,m⟩ H p r l as sh lines->m<=1000->bI sh.1<=60000000->lines.length<=50->(∀H',zq H H'->Q (.bl (lines.any fun x=>decide (4000<Sp.wt (zn sh.1 x)))) H')->zox Cc Cs vs H Q E
theorem zoy(B:Bs P base)(T:Txt K mg A):zH P w K mg base CX0 44 A.zf4 A.zfx ["sheet"] (zox A.zR A.zU):=by
 have zpW:=zow (w:=w) B T
 refine T.zfF.ok zfr (fun _ _ _ _ h=>?_) fun _ _ _ s H vs Q E hr h=>?_
 ·obtain⟨rt,m,p,r,l,as,sh,lines,rfl,_⟩:=h
  rfl
 ·obtain⟨rt,m,p,r,l,as,sh,lines,rfl,S,hm,hS,hz,k⟩:=h
  refine⟨_,(zh (zo (zaN (zBA rfl) (by rfl) T.zB3 boot_any (za (zfR (te:=tMeth A.zU "is_heavy" (zpa A.zU) [] E0 (tFld K (zbd 0) "scale") (zc0 (zbd 1) (zc0 (tC (.int 4000)) zdf))) rfl zfr.nd (zdP (zg (pv 0) rfl)) (zbQ (own:=[("line",1)]) (by rfl)) (fun _ _ _ _ _=>(zag (i:=1) zfr.nd rfl (Or.inl rfl))) (fun _ _ _ _ _=>zcq) (fun _ _ _ _ _=>(zp (zg (pv 0) rfl) T.zbt T.zoB zpW hr T.zpT .nil zj (za (pv 1) (za (zas rfl T.zto) zc))))) zc)))),?_⟩
  obtain⟨dx,c,hp,hc⟩:=S.ins
  obtain⟨dc,dd,fs,hsc,_,_⟩:=id hc
  refine⟨_,rfl,p,_,dx,_,_,rfl,hp,T.zz,T.zed,zgD _ _ _ _,l,rfl,⟨_,SqL.of S.lin⟩,fun D hD=>?_⟩
  refine zgc (K:=K) (a:=l) (xs:=lines.map V.int) (fun i H'=>zq H H'/\H' D=some (.lst (((lines.take i).map fun x=>decide (4000<Sp.wt (zn sh.1 x))).map V.bl))) ⟨zl hD,zd⟩ (fun i H' _ ⟨s,_⟩=>s.seq (SqL.of S.lin)) ?_ ?_
  ·rintro i x H' hx ⟨s2,hD2⟩
   obtain⟨z,hz2,rfl⟩:=zgC hx
   have hlt:i<lines.length:=(List.getElem?_eq_some_iff.mp hz2).1
   refine⟨rfl,_,rfl,p,_,dx,_,_,rfl,s2 _ _ hp,T.zz,T.zbi,zbI _ _ _ _,c,dc,_,rfl,s2 _ _ hsc,zc5 _ _,_,rfl,c,sh.1,z,m,4000,rfl,hc.same s2,hm,hS,fun H3 s3=>?_⟩
   refine⟨_,s3 _ _ hD2,(by rw[lmm,lmm,List.length_take];exact zbe (by omega)),fun c o hc=>?_,?_⟩
   ·rw[zf (zk hc hD)];exact s3 _ _ (s2 _ _ hc)
   ·rw[zd,Pr.zab hz2,lMa,lMa];rfl
  ·rintro H' ⟨s2,hD2⟩
   rw[lmm,List.take_length]at hD2
   refine⟨D,_,rfl,SqL.of hD2,?_⟩
   have:=k H' s2
   rw[List.any_map]
   exact this
def zbN(pr rs ss ff:Addr):List (Str×V):=zK "first_fault" (.ref ff) (zK "sheets" (.ref ss) (zK "ratios" (.ref rs) (zK "plan_rules" (.ref pr) [])))
theorem zs5(pr rs ss ff:Addr):(zbN pr rs ss ff).lookup ("plan_rules" : Str)=some (V.ref pr):=by unfold zbN;simp only[zy];rfl
theorem zdb(pr rs ss ff:Addr):(zbN pr rs ss ff).lookup ("ratios" : Str)=some (V.ref rs):=by unfold zbN;simp only[zy];rfl
theorem zd5(pr rs ss ff:Addr):(zbN pr rs ss ff).lookup ("sheets" : Str)=some (V.ref ss):=by unfold zbN;simp only[zy];rfl
theorem zfV(pr rs ss ff:Addr):(zbN pr rs ss ff).lookup ("first_fault" : Str)=some (V.ref ff):=by unfold zbN;simp only[zy];rfl
theorem zvS(pr rs ss ff f2:Addr):zK "first_fault" (.ref f2) (zbN pr rs ss ff)=zbN pr rs ss f2:=rfl
theorem zaz(pr rs ss ff:Addr){m:Str}(h1:¬m = "first_fault":=by decide) (h2:¬m = "sheets":=by decide) (h3:¬m = "ratios":=by decide) (h4:¬m = "plan_rules":=by decide):(zbN pr rs ss ff).lookup m=none:=by
 unfold zbN
 rw[zy,if_neg h1,zy,if_neg h2,zy,if_neg h3,zy,if_neg h4]
 rfl
structure ze2(n N:Nat)(bs:List Int)(qs:List zav)(pl:Vagrao.Plan):Prop where
 acc:pl.accounts=n
 par:pl.params=N
 beg:pl.begins=bs.map zcd
 rul:pl.rules=qs.map zM
 len:bs.length=n
 begs :∀x,x∈bs->-1<=x/\x<N
 ok:qs.all (okQ n N)=true
 few:n<=6/\N<=8/\qs.length<=10
theorem ze2.good{n N:Nat}{bs:List Int}{qs:List zav}{pl:Vagrao.Plan}(h:ze2 n N bs qs pl):Sp.zdg pl:=by
 refine⟨by rw[h.beg,lmm,h.len,h.acc],fun j hj=>?_,fun r hr=>?_⟩
 ·rw[h.beg,List.mem_map]at hj
  obtain⟨x,hx,e⟩:=hj
  have:=h.begs x hx
  unfold zcd at e
  split at e
  ·cases e
  ·cases e
   rw[h.par]
   omega
 ·rw[h.rul,List.mem_map]at hr
  obtain⟨q,hq,rfl⟩:=hr
  have:=List.all_eq_true.mp h.ok q hq
  rw[h.acc,h.par]
  exact(zpx this).1
structure zfM(N:Nat)(ps:List Rat):Prop where
 len:ps.length=N
 wt :∀q,q∈ps->Sp.wt q<=1500
theorem zgj{ps:List Rat}{pl:Vagrao.Plan} :∀(t:Nat) (s:List Sp.zt),Sp.zaj ps pl t=.ok s->s.length=pl.begins.length
 | 0,s,h=>by
  have e:Sp.zfI ps pl=s:=by cases h;rfl
  rw[<-e]
  unfold Sp.zfI
  rw[lmm]
 | t+1,s,h=>by
  rw[Sp.ziR]at h
  cases e:Sp.zaj ps pl t with
  | error x=>
   rw[e]at h
   rw[show Sp.zfk ps (t+1) pl.rules (.error x)=.error x from zeR ps (t+1) x _]at h
   cases h
  | ok s0=>
   rw[e]at h
   have h0:=zgj t s0 e
   have g :∀(l:List (Vagrao.Rule×Nat)) (s0 s:List Sp.zt),l.foldl (fun x r=>Sp.stepR ps (t+1,r.2+1) r.1 x) (.ok s0)=.ok s->s.length=s0.length:=by
    intro l
    induction l with
    | nil=>intro s0 s h;cases h;rfl
    | cons r l ih=>
     intro s0 s h
     rw[List.foldl_cons]at h
     have e2:Sp.stepR ps (t+1,r.2+1) r.1 (.ok s0)=if Sp.zbx ps s0 r.1=0 then .ok (Sp.zhA ps s0 r.1)else .error ((t+1,r.2+1),Sp.zbx ps s0 r.1):=rfl
     rw[e2]at h
     split at h
     ·rw[ih _ _ h,Sp.zi9]
     ·rw[zeR]at h
      cases h
   rw[g _ s0 s h,h0]
def zli(A:Ad)(H:Hp)(rs:Addr)(W:Nat)(ps:List Rat)(pl:Vagrao.Plan)(i:Nat)(a:Addr):Prop:=
 E6 fun(r l:Addr)(as:List Addr)(sh:Sh)(lines:List Int)(s:List Sp.zt)=>zae ⟨A.zR,A.zU,rs,10*i+1⟩ H a r l as sh lines/\Sp.zaj ps pl i=.ok s/\zdX pl.params W ps sh s/\Sz (bd (10*i)) sh
def zw1(ps:List Rat)(pl:Vagrao.Plan)(n:Nat)(fl:List Int):Prop:=fl=[]\/∃(place kind:Nat),fl=[(n:Int),(place:Int),(kind:Int)]/\Sp.zaj ps pl n=.error ((n,place),kind)
structure zan(A:Ad)(H:Hp)(c pr rs ss ff:Addr)(qs:List zav)(ps:List Rat)(pl:Vagrao.Plan)(W:Nat)(sa:List Addr)(fl:List Int):Prop where
 ins :∃dx,H c=some (.ins A.zao dx (zbN pr rs ss ff))
 rules :∃ras,H pr=some (.lst (ras.map V.ref))/\zT A.zaH H ras qs
 vals :∃qas,H rs=some (.lst (qas.map V.ref))/\zam H qas ps
 sheets:H ss=some (.lst (sa.map V.ref))
 pos:0<sa.length
 each :∀i a,sa[i]? = some a->zli A H rs W ps pl i a
 fau:H ff=some (.lst (fl.map V.int))
 fl:zw1 ps pl sa.length fl
theorem zan.rest{A:Ad}{H:Hp}{c pr rs ss ff:Addr}{qs:List zav}{ps:List Rat}{pl:Vagrao.Plan}{W:Nat}{sa:List Addr}{fl:List Int}(C:zan A H c pr rs ss ff qs ps pl W sa fl){H':Hp}(kp :∀b o,H b=some o->b≠c->b≠ss->H' b=some o) :
  (∃ras,H' pr=some (.lst (ras.map V.ref))/\zT A.zaH H' ras qs)/\(∃qas,H' rs=some (.lst (qas.map V.ref))/\zam H' qas ps)/\(∀i a,sa[i]? = some a->zli A H' rs W ps pl i a)/\H' ff=some (.lst (fl.map V.int)):=by
 obtain⟨dx,hc⟩:=C.ins
 obtain⟨a0,ha0⟩ :∃a0,sa[0]? = some a0:=⟨_,gge C.pos⟩
 obtain⟨r0,l0,as0,sh0,ln0,u0,S0,_⟩:=C.each 0 a0 ha0
 obtain⟨d0,c0,hs0,_⟩:=S0.ins
 have kT :∀b q,H b=some (qT q)->H' b=some (qT q):=fun b q hb=>kp b _ hb (zI hb hc (by intro z;cases z)) (zI hb C.sheets (by intro z;cases z))
 have kR :∀b q,zeA A.zaH H b q->zeA A.zaH H' b q:=fun b q ⟨d,hb⟩=>⟨d,kp b _ hb (zI hb hc (by
  intro z
  have z2:=(HO.ins.inj z).2.2
  have z3:=congrArg (fun f=>List.lookup ("kind" : Str) f) z2
  simp only[zbE]at z3
  rw[zaz _ _ _ _]at z3
  cases z3)) (zI hb C.sheets (by intro z;cases z))⟩
 have kRs :∀{as:List Addr} {qs:List zav},zT A.zaH H as qs->zT A.zaH H' as qs:=by
  intro as qs h
  induction h with
  | nil=>exact .nil
  | cons h t ih=>exact .cons (kR _ _ h) ih
 have kQs :∀{as:List Addr} {qs:List Rat},zam H as qs->zam H' as qs:=by
  intro as qs h
  induction h with
  | nil=>exact .nil
  | cons h t ih=>exact .cons (kT _ _ h) ih
 have kI :∀b (xs:List Int),H b=some (.lst (xs.map V.int))->H' b=some (.lst (xs.map V.int)):=fun b xs hb=>kp b _ hb (zI hb hc (by intro z;cases z)) (fun z=>by
  have h1:=C.sheets
  rw[<-z,hb]at h1
  have h2:=HO.lst.inj (oSi h1)
  cases sa with
  | nil=>simp at ha0
  | cons x y=>cases xs with
   | nil=>simp at h2
   | cons u v=>simp at h2)
 have inj :∀{as bs:List Addr},as.map V.ref=bs.map V.ref->as=bs:=by
  intro as
  induction as with
  | nil=>intro bs h;cases bs with
   | nil=>rfl
   | cons _ _=>simp at h
  | cons x y ih=>intro bs h;cases bs with
   | nil=>simp at h
   | cons u v=>
    simp at h
    rw[h.1,ih (by simpa using h.2)]
 have kL :∀b (as:List Addr),H b=some (.lst (as.map V.ref))->(∀a,a∈as->∀d S r l,∀t,H a≠some (.ins A.zR d (zcc S t r l)))->H' b=some (.lst (as.map V.ref)):=fun b as hb hno=>kp b _ hb (zI hb hc (by intro z;cases z)) (fun z=>by
  have h1:=C.sheets
  rw[<-z,hb]at h1
  have h2:=inj (HO.lst.inj (oSi h1))
  subst h2
  exact hno a0 (mge ha0) _ _ _ _ _ hs0)
 refine⟨?_,?_,?_,kI _ _ C.fau⟩
 ·obtain⟨ras,h1,h2⟩:=C.rules
  refine⟨ras,kL _ _ h1 (fun a ha d S1 r1 l1 t1 hf=>?_),kRs h2⟩
  obtain⟨i,hi⟩:=List.getElem?_of_mem ha
  obtain⟨q,_,d2,h3⟩:=h2.get hi
  rw[h3]at hf
  have z2:=(HO.ins.inj (oSi hf)).2.2
  have z3:=congrArg (fun f=>List.lookup ("kind" : Str) f) z2
  simp only[zbE]at z3
  rw[show(zcc S1 t1 r1 l1).lookup ("kind" : Str)=none by unfold zcc;simp only[zy];rfl]at z3
  cases z3
 ·obtain⟨qas,h1,h2⟩:=C.vals
  refine⟨qas,kL _ _ h1 (fun a ha d _ _ _ _ hf=>?_),kQs h2⟩
  obtain⟨i,hi⟩:=List.getElem?_of_mem ha
  obtain⟨q,_,h3⟩:=h2.get hi
  rw[h3]at hf
  cases hf
 ·intro i a ha
  obtain⟨r,l,as,sh,lines,u,S,e,o,z⟩:=C.each i a ha
  obtain⟨d,cs,hs,dcs,ddc,fsc,g1,g2,g3⟩:=S.ins
  refine⟨r,l,as,sh,lines,u,⟨⟨d,cs,kp a _ hs (zI hs hc (by
   intro z
   have z2:=(HO.ins.inj z).2.2
   have z3:=congrArg (fun f=>List.lookup ("scale" : Str) f) z2
   simp only[zbI]at z3
   rw[zaz _ _ _ _]at z3
   cases z3)) (zI hs C.sheets (by intro z;cases z)),dcs,ddc,fsc,kp _ _ g1 (zI g1 hc (by
   intro z
   have z2:=(HO.ins.inj z).2.2
   have z3:=congrArg (fun f=>List.lookup ("whole" : Str) f) z2
   simp only[zdi]at z3
   rw[zaz _ _ _ _]at z3
   cases z3)) (zI g1 C.sheets (by intro z;cases z)),kp _ _ g2 (zI g2 hc (by intro z;cases z)) (zI g2 C.sheets (by intro z;cases z)),g3⟩,?_,?_,kI _ _ S.lin,S.sep⟩,e,o,z⟩
  ·refine kL _ _ S.rows fun a2 ha2 d2 _ _ _ _ hf=>?_
   obtain⟨row,_,h1,_⟩:=S.row.mem ha2
   rw[h1]at hf
   cases hf
  ·refine S.row.mono fun a2 o2 ha2 he=>?_
   obtain⟨row,_,h1,_⟩:=S.row.mem ha2
   rw[h1]at he
   cases he
   exact kI _ _ h1
theorem zae.monoM{c s rt:Addr}{m m':Nat}{H:Hp}{p r l:Addr}{as:List Addr}{sh:Sh}{lines:List Int}(S:zae ⟨c,s,rt,m⟩ H p r l as sh lines)(h:m<=m'):zae ⟨c,s,rt,m'⟩ H p r l as sh lines:=
 ⟨let⟨dx,c,h1,h2⟩:=S.ins;⟨dx,c,h1,h2.mono h⟩,S.rows,S.row,S.lin,S.sep⟩
theorem zan.setFault{A:Ad}{H:Hp}{c pr rs ss ff:Addr}{qs:List zav}{ps:List Rat}{pl:Vagrao.Plan}{W:Nat}{sa:List Addr}{fl:List Int}(C:zan A H c pr rs ss ff qs ps pl W sa fl){H':Hp}{f2:Addr}{fl2:List Int}{dx:Addr}
  (hc:H' c=some (.ins A.zao dx (zbN pr rs ss f2))) (kp :∀b o,H b=some o->b≠c->H' b=some o) (hf:H' f2=some (.lst (fl2.map V.int))) (h2:zw1 ps pl sa.length fl2):zan A H' c pr rs ss f2 qs ps pl W sa fl2:=by
 obtain⟨d0,hc0⟩:=C.ins
 obtain⟨r1,r2,r3,r4⟩:=C.rest fun b o hb h1 _=>kp b o hb h1
 exact⟨⟨dx,hc⟩,r1,r2,kp _ _ C.sheets (fun z=>by have h:=C.sheets;rw[z,hc0]at h;cases h),C.pos,r3,hf,h2⟩
theorem zan.same{A:Ad}{H H':Hp}{c pr rs ss ff:Addr}{qs:List zav}{ps:List Rat}{pl:Vagrao.Plan}{W:Nat}{sa:List Addr}{fl:List Int}(C:zan A H c pr rs ss ff qs ps pl W sa fl)(s:zq H H'):zan A H' c pr rs ss ff qs ps pl W sa fl:=by
 obtain⟨d0,hc0⟩:=C.ins
 obtain⟨r1,r2,r3,r4⟩:=C.rest fun b o hb _ _=>s b o hb
 exact⟨⟨d0,s _ _ hc0⟩,r1,r2,s _ _ C.sheets,C.pos,r3,r4,C.fl⟩
theorem zyZ(N:Nat)(n d:Int)(sh:Sh)(r:Vagrao.Rule):(zdW N n d sh r).2.length<=3:=by
 cases r<;>simp[zdW,growS,payS,moveS,shareS,pullS,overS]
theorem zuB{ps:List Rat}{i:Nat}{q:Rat}(h:ps[i]? = some q):Sp.get ps i=q:=by
 unfold Sp.get
 rw[gDm,h]
 rfl
inductive zzT(A:Ad)(vs:List V)(H:Hp)(Q:VK)(E:XK):Prop|I:∀(c pr rs ss ff:Addr) (qs:List zav) (ps:List Rat) (pl:Vagrao.Plan) (W:Nat) (sa:List Addr) (n N:Nat) (bs:List Int),vs=[.ref c]->zan A H c pr rs ss ff qs ps pl W sa []->ze2 n N bs qs pl->zfM N ps->sa.length<=20->(∀(H':Hp) (f2:Addr) (sa2:List Addr) (fl2:List Int),zan A H' c pr rs ss f2 qs ps pl W sa2 fl2->((sa2.length=sa.length+1/\fl2=[])\/(sa2.length=sa.length/\fl2≠[]))->(∀b o,H b=some o->b≠c->b≠ss->H' b=some o)->Q .non H')->zzT A vs H Q E
theorem zqE(B:Bs P base)(T:Txt K mg A):zH P w K mg base CX0 47 A.zhl A.zgK ["self"] (zzT A):=by
 have zvh:=zs4 (w:=w) B T
 have zpX:=(zoy (w:=w) B T).up 46
 refine T.zke.ok zcO (fun _ _ _ _ h=>?_) fun _ _ _ s H vs Q E hr h=>?_
 ·obtain⟨c,pr,rs,ss,ff,qs,ps,pl,W,sa,n,N,bs,rfl,_⟩:=h
  rfl
 obtain⟨c,pr,rs,ss,ff,qs,ps,pl,W,sa,n,N,bs,rfl,C,PI0,V0,h20,k⟩:=h
 refine zQa (qD 1 zcO.nd (zaN zaC (by rfl) T.zcw PySem.boot_len (za (zg (pv 0) rfl) zc))) (zQc (qD 2 zcO.nd (zu zA (zg (pv 0) rfl) (zW zp1 (pv 1) zi) (fun _ _=>rfl))) (zQc (zde PassesOwn.never rfl (zzw rfl T.zn0 (za (zg (pv 0) rfl) zc) (zAp zi zBx)) (zhI (n:=2) rfl (zbP (zag (i:=3) zcO.nd rfl (Or.inl rfl)) (zbP (zag (i:=4) zcO.nd rfl (Or.inl rfl)) zga))) (ze (zY (PW.pt (zkV (z5 zb0 (zg (pv 4) rfl) (zas rfl T.zy9) (nomark _)) (ziV (z5 zb0 (zu z6 (zu zA (zg (pv 0) rfl) (zg (pv 4) rfl) (fun _ _=>rfl)) zi (fun _ _=>rfl)) zi (nomark _))))) (ze (zaX (pv 0) (zL (za (pv 1) (za (pv 3) (za (zas rfl T.znY) zc)))) rfl)
  (zh zwv)) zJ)
  (ze (qD 2 zcO.nd (zw zvh hr rfl T.zti T.ziB.kp T.zvb .nil zj (za (pv 2) (za (pv 4) zc))))
  (zh (zY (zaG (zw zpX hr rfl T.zoC T.zfF.kp T.zpU .nil zj (za (pv 2) zc)) (fun _=>rfl)) (ze (zaX (pv 0) (zL (za (pv 1) (za (pv 3) (za (zas rfl T.zwa) zc)))) rfl)
  (zh zwv)) zJ))))) (zQl (zh (zay (zeh PySem.F.plainAttrs_list PySem.F.slot_list_append PySem.F.type_list_append zdt (zg (pv 0) rfl) (za (pv 2) zc)))) ?_)));intros
 obtain⟨dx,hc⟩:=C.ins
 obtain⟨ras,hpr,hras⟩:=C.rules
 obtain⟨qas,hrs,hqas⟩:=C.vals
 have hpos:=C.pos
 obtain⟨m,hm⟩ :∃m,sa.length=m+1:=⟨sa.length-1,by omega⟩
 obtain⟨cur0,hcur0⟩ :∃a,sa[m]? = some a:=⟨_,gge (by omega)⟩
 obtain⟨r0,l0,as0,sh0,ln0,s0,S0,e0,o0,z0⟩:=C.each m cur0 hcur0
 have hlen0:s0.length=n:=by rw[zgj m s0 e0,PI0.beg,lmm,PI0.len]
 have hper :∀x,Sp.zfk ps (m+1) pl.rules (.ok s0)=x->Sp.zaj ps pl (m+1)=x:=fun x h=>by rw[Sp.ziR,e0];exact h
 have few:=PI0.few
 have hN:=PI0.par
 have hn:=PI0.acc
 have hql:=hras.length
 have eqa:atI (sa.map V.ref) (((sa.map V.ref).length:Int)-1)=some (V.ref cur0):=zei (by rw[lmm,hm];omega:(((sa.map V.ref).length:Nat):Int)-1=((m:Nat):Int)) (by rw[gEm,hcur0];rfl)
 refine⟨_,rfl,c,_,dx,_,_,rfl,hc,T.zO,T.zcy,zd5 _ _ _ _,ss,_,rfl,.inl (SqL.of C.sheets),?_⟩
 refine⟨_,rfl,c,_,dx,_,_,rfl,hc,T.zO,T.zcy,zd5 _ _ _ _,_,rfl,_,_,rfl,rfl,ss,_,_,_,rfl,rfl,SqL.of C.sheets,eqa,?_⟩
 rw[lmm,hm]
 refine⟨_,rfl,c,_,dx,_,_,rfl,hc,T.zO,T.zgV,zs5 _ _ _ _,pr,_,rfl,rfl,SqL.of hpr,
  zyu (K:=K) (a:=pr) (xs:=ras.map V.ref) (fun i σ H'=>zq H H'/\∃(v3 v4:Option V) (cur r l:Addr) (as:List Addr) (sh:Sh) (lines:List Int) (s:List Sp.zt),σ = [some (.ref c),some (.int ((m+1:Nat):Int)),some (.ref cur),v3,v4]/\zae ⟨A.zR,A.zU,rs,10*m+i+1⟩ H' cur r l as sh lines/\zhC ps (m+1) pl.rules s0 i=.ok s/\zdX pl.params W ps sh s/\Sz (bd (10*m+i)) sh/\s.length=n)
   ⟨zq.refl _,none,none,cur0,r0,l0,as0,sh0,ln0,s0,rfl,S0,zxr _ _ _ _,o0,z0,hlen0⟩ (fun i σ H' _ ⟨s1,_⟩=>SqL.of (s1 _ _ hpr)) ?_ ?_⟩
 ·rintro i x T' σ H' hx hT ⟨s1,v3,v4,cur,r,l,as,sh,lines,u,rfl,S,e1,o1,z1,hl1⟩
  obtain⟨ua,hua,rfl⟩ :∃z,ras[i]? = some z/\x=V.ref z:=by
   rw[gEm]at hx
   cases e2:ras[i]? with
   | none=>rw[e2]at hx;cases hx
   | some z=>rw[e2]at hx;exact⟨z,rfl,(oSi hx).symm⟩
  obtain⟨q,hq1,hq2⟩:=hras.get hua
  have hqi:i<qs.length:=(List.getElem?_eq_some_iff.mp hq1).1
  have okq:=zpx (List.all_eq_true.mp PI0.ok q (mge hq1))
  obtain⟨ok1,ok2,ok3,ok4,ok5,ok6⟩:=okq
  have hri:pl.rules[i]? = some (zM q):=by rw[PI0.rul,gEm,hq1];rfl
  have e2:=zxs (ps:=ps) (t:=m+1) (s:=s0) hri
  rw[e1]at e2
  have e3:Sp.stepR ps (m+1,i+1) (zM q) (.ok u)=if Sp.zbx ps u (zM q)=0 then .ok (Sp.zhA ps u (zM q))else .error ((m+1,i+1),Sp.zbx ps u (zM q)):=rfl
  rw[e3]at e2
  have hV:=V0.len
  obtain⟨ra,hra⟩ :∃ra,qas[q.p.toNat]? = some ra:=⟨_,gge (by have:=hqas.length;omega)⟩
  obtain⟨y,hy1,hy2⟩:=hqas.get hra
  have hgy:=zuB hy1
  have hym:=mge hy1
  have hwy:=V0.wt y hym
  obtain⟨by1,by2⟩:=zeY hwy
  have era:atI (qas.map V.ref) q.p=some (V.ref ra):=zei (by omega:q.p=((q.p.toNat:Nat):Int)) (by rw[gEm,hra];rfl)
  have sT:zq H' (upd H' T' (.tup [.int ((i+1:Nat):Int),.ref ua])):=zl hT
  have s2:zq H (upd H' T' (.tup [.int ((i+1:Nat):Int),.ref ua])):=s1.trans sT
  obtain⟨du,hu0⟩:=hq2
  generalize hH1:upd H' T' (.tup [.int ((i+1:Nat):Int),.ref ua])=H1 at s2 sT
  have hTT:H1 T'=some (.tup [.int ((i+1:Nat):Int),.ref ua]):=by rw[<-hH1,zd]
  have hu1:=s2 _ _ hu0
  have hc1:=s2 _ _ hc
  have hy3:=s2 _ _ hy2
  have fault :∀(H2:Hp) (f2:Addr) (kind:Nat),zq H H2->H2 f2=none->Sp.zbx ps u (zM q)=kind->kind≠0->
    Q .non (upd (upd H2 f2 (.lst [.int ((m+1:Nat):Int),.int ((i+1:Nat):Int),.int (kind:Int)])) c (.ins A.zao dx (zK "first_fault" (.ref f2) (zbN pr rs ss ff)))):=by
   intro H2 f2 kind s3 hf2 hb hk0
   have e4:Sp.zaj ps pl (m+1)=.error ((m+1,i+1),kind):=by
    refine hper _ (zvJ (i:=i+1) ?_)
    rw[e2,if_neg (by rw[hb];exact hk0),hb]
   have nfc:f2≠c:=fun z=>by rw[z,s3 _ _ hc]at hf2;cases hf2
   have kp :∀b o,H b=some o->b≠c->upd (upd H2 f2 (.lst [.int ((m+1:Nat):Int),.int ((i+1:Nat):Int),.int (kind:Int)])) c (.ins A.zao dx (zK "first_fault" (.ref f2) (zbN pr rs ss ff))) b=some o:=fun b o hb1 hbc=>by
    rw[zf hbc,zf (zk (s3 _ _ hb1) hf2)]
    exact s3 _ _ hb1
   refine k _ f2 sa [((m+1:Nat):Int),((i+1:Nat):Int),(kind:Int)] (C.setFault (dx:=dx) (by rw[zd,zvS]) kp (by rw[zf nfc,zd];rfl) (.inr ⟨i+1,kind,by rw[hm],?_⟩)) (.inr ⟨rfl,by simp⟩) fun b o hb1 hbc _=>kp b o hb1 hbc
   rw[hm]
   exact e4
  refine⟨T',_,rfl,SqT.of hTT,rfl,_,_,rfl,_,_,rfl,rfl,?_⟩
  refine⟨_,rfl,ua,_,du,_,_,rfl,hu1,T.zG,T.zbK,zbE q,rfl,_,rfl,?_⟩
  by_cases Z:q.k=5/\y.num=0
  ·rw[show decide (V.int q.k=V.int 5)=true from decide_eq_true (by rw[Z.1])]
   refine zaY ?_
   refine⟨_,rfl,c,_,dx,_,_,rfl,hc1,T.zO,T.zb6,zdb _ _ _ _,_,rfl,ua,_,du,_,_,rfl,hu1,T.zG,T.zbf,zca q,rs,_,_,_,rfl,rfl,SqL.of (s2 _ _ hrs),era,ra,_,_,_,rfl,rfl,SqT.of hy3,rfl,rfl,_,rfl,?_⟩
   rw[show decide (V.int y.num=V.int 0)=true from decide_eq_true (by rw[Z.2])]
   refine zaY ?_
   refine⟨_,rfl,_,rfl,szl3,fun f2 hf2=>?_⟩
   refine⟨_,rfl,c,_,dx,_,rfl,(by rw[zf (zk hc1 hf2)];exact hc1),T.zO,T.zbj,(by show 4<1000;decide),?_⟩
   refine fault H1 f2 1 s2 hf2 ?_ (by decide)
   rw[zvL Z.1]
   show(if Sp.get ps q.p.toNat=0 then 1 else _)=1
   rw[if_pos]
   rw[hgy]
   exact Rat.num_eq_zero.mp Z.2
  ·have hz :∀a p,zM q=.over a p->Sp.get ps p≠0:=fun a p e4 e5=>by
    obtain⟨g0,g1,g2,g3,g4,g5⟩:=zvK e4
    rw[g5,hgy]at e5
    exact Z ⟨by omega,by rw[e5];rfl⟩
   have hbad:=zsU (s:=u) hz
   have hrow:=o1.rows
   have I1:RuleIn W sh q y.num (y.den:Int):=by
    have hzb:bd (10*m+i)<=10000000:=by unfold bd;omega
    have hw:=o1.wid
    exact⟨o1.len,by omega,by omega,by omega,⟨ok3.1,by omega⟩,⟨ok4.1,by omega⟩,ok5.1,fun h=>by omega,Int.natCast_pos.mpr y.den_pos,by have:=o1.dvd q.p.toNat (by omega);rw[hgy]at this;exact this,z1.mono hzb,by omega,by omega⟩
   have hr1:Sp.zcY u.length pl.params (zM q):=by rw[hl1,hN];exact ok1
   have hnum:y.num=(Sp.get ps (zeQ (zM q))).num:=by rw[ok6,hgy]
   have hden:(y.den:Int)=((Sp.get ps (zeQ (zM q))).den:Int):=by rw[ok6,hgy]
   have hwt:Sp.wt (Sp.get ps (zeQ (zM q)))<=1500:=by rw[ok6,hgy];exact hwy
   obtain⟨o2,_⟩:=zwP o1 hr1 hz hnum hden
   have hheavy:=zvI o1 hr1 hz hnum hden hwt
   have z2:=zAT o1 hr1 (n:=y.num) (d:=(y.den:Int)) z1 by1 by2 hden
   have hany:((zdW W y.num (y.den:Int) sh (zM q)).2.any fun x=>decide (4000<Sp.wt (zn (zdW W y.num (y.den:Int) sh (zM q)).1.1 x)))=Sp.zbH (Sp.zdn ps u (zM q)):=by
    rw[<-hheavy]
    congr 1
    funext x
    exact(zso o2.pos).symm
   by_cases k5:q.k=5
   case' pos=>
    rw[show decide (V.int q.k=V.int 5)=true from decide_eq_true (by rw[k5])]
    refine zaY ?_
    refine⟨_,rfl,c,_,dx,_,_,rfl,hc1,T.zO,T.zb6,zdb _ _ _ _,_,rfl,ua,_,du,_,_,rfl,hu1,T.zG,T.zbf,zca q,rs,_,_,_,rfl,rfl,SqL.of (s2 _ _ hrs),era,ra,_,_,_,rfl,rfl,SqT.of hy3,rfl,rfl,_,rfl,?_⟩
    rw[show decide (V.int y.num=V.int 0)=false from decide_eq_false (fun z=>Z ⟨k5,V.int.inj z⟩)]
    refine zaT ?_
   case' neg=>
    rw[show decide (V.int q.k=V.int 5)=false from decide_eq_false (fun z=>k5 (V.int.inj z))]
    refine zaT (zaT ?_)
   all_goals
    refine⟨_,rfl,_,rfl,rs,10*m+i+1,cur,r,l,as,sh,lines,ua,q,y.num,(y.den:Int),W,rfl,S.same sT,by omega,⟨du,hu1⟩,⟨qas,ra,s2 _ _ hrs,hra,hy3⟩,I1,ok2,fun h5 h0=>Z ⟨h5,h0⟩,fun p2 r2 l2 as2 H2 s3 hp2 hr2 hl2 S2=>?_⟩
    refine⟨_,rfl,rs,_,p2,r2,l2,as2,_,_,rfl,S2,by omega,nLt z2.sc (by unfold bd;omega),(by have:=zyZ W y.num (y.den:Int) sh (zM q);omega),fun H3 s4=>⟨_,rfl,?_⟩⟩
    rw[hany]
    have s13:zq H H3:=(s2.trans s3).trans s4
    have hc3:=s13 _ _ hc
    refine zaZ (fun e4=>?_) (fun e4=>?_)
    ·refine⟨_,rfl,_,rfl,szl3,fun f2 hf2=>?_⟩
     refine⟨_,rfl,c,_,dx,_,rfl,(by rw[zf (zk hc3 hf2)];exact hc3),T.zO,T.zbj,(by show 4<1000;decide),?_⟩
     refine fault H3 f2 2 s13 hf2 ?_ (by decide)
     rw[hbad,if_pos e4]
    ·have e5:Sp.zbx ps u (zM q)=0:=by rw[hbad,if_neg e4]
     rw[if_pos e5]at e2
     refine⟨s13,_,_,p2,r2,l2,as2,_,_,_,rfl,S2.same s4,e2,o2,z2.mono ?_,by rw[Sp.zi9,hl1]⟩
     unfold bd
     omega
 ·rintro σ H' ⟨s1,v3,v4,cur,r,l,as,sh,lines,u,rfl,S,e1,o1,z1,hl1⟩
  have hc1:=s1 _ _ hc
  have hss1:=s1 _ _ C.sheets
  refine⟨_,rfl,c,_,dx,_,_,rfl,hc1,T.zO,T.zcy,zd5 _ _ _ _,.inl ⟨rfl,_,SqL.of hss1⟩,_,rfl,ss,_,_,rfl,rfl,hss1,(by rw[lmm];exact zbe (by omega)),?_⟩
  have e2:sa.map V.ref++[V.ref cur]=(sa++[cur]).map V.ref:=by rw[lMa];rfl
  rw[e2]
  have kp :∀b o,H' b=some o->b≠ss->upd H' ss (.lst ((sa++[cur]).map V.ref)) b=some o:=fun b o hb hbs=>by rw[zf hbs];exact hb
  have C1:=C.same s1
  obtain⟨x1,x2,x3,x4⟩:=C1.rest (H':=upd H' ss (.lst ((sa++[cur]).map V.ref))) fun b o hb _ hbs=>kp b o hb hbs
  rw[lmm]at e1 z1
  have e3:Sp.zaj ps pl (m+1)=.ok u:=by
   refine hper _ ?_
   rw[<-zyJ]
   have:pl.rules.length=ras.length:=by rw[PI0.rul,lmm,hql]
   rw[this]
   exact e1
  have ncs:c≠ss:=zI hc1 hss1 (by intro z;cases z)
  have C2:zan A (upd H' ss (.lst ((sa++[cur]).map V.ref))) c pr rs ss ff qs ps pl W (sa++[cur]) []:=by
   refine⟨⟨dx,kp _ _ hc1 ncs⟩,x1,x2,zd,by rw[lEa];omega,fun i a ha=>?_,x4,.inl rfl⟩
   by_cases hi:i<sa.length
   ·rw[List.getElem?_append_left hi]at ha
    exact x3 i a ha
   ·rw[List.getElem?_append_right (by omega)]at ha
    have hi2:i-sa.length=0:=by
     cases hd:i-sa.length with
     | zero=>rfl
     | succ j=>rw[hd]at ha;simp at ha
    rw[hi2]at ha
    have ea:cur=a:=oSi ha
    subst ea
    have ei:i=m+1:=by omega
    subst ei
    have S':=S.monoM (m':=10*(m+1)+1) (by rw[lmm];omega)
    obtain⟨d4,c4,hs4,hc4⟩:=S'.ins
    have hno :∀b (bs:List Addr),H' b=some (.lst (bs.map V.ref))->(∀a,a∈bs->∀d S r l t,H' a≠some (.ins A.zR d (zcc t S r l)))->b≠ss:=fun b bs hb hn z=>by
     rw[z,hss1]at hb
     have h2:=HO.lst.inj (oSi hb)
     have h3:V.ref cur0∈bs.map V.ref:=by rw[<-h2];exact List.mem_map.mpr ⟨cur0,mge hcur0,rfl⟩
     rw[List.mem_map]at h3
     obtain⟨a5,ha5,e5⟩:=h3
     cases e5
     obtain⟨d6,_,hs6,_⟩:=(S0.same s1).ins
     exact hn cur0 ha5 _ _ _ _ _ hs6
    have hint :∀b (xs:List Int),H' b=some (.lst (xs.map V.int))->b≠ss:=fun b xs hb z=>by
     rw[z,hss1]at hb
     have h2:=HO.lst.inj (oSi hb)
     have h3:V.ref cur0∈xs.map V.int:=by rw[<-h2];exact List.mem_map.mpr ⟨cur0,mge hcur0,rfl⟩
     rw[List.mem_map]at h3
     obtain⟨a5,ha5,e5⟩:=h3
     cases e5
    refine⟨r,l,as,sh,lines,u,⟨⟨d4,c4,kp _ _ hs4 (zI hs4 hss1 (by intro z;cases z)),hc4.keep (fun a c dx fs h=>kp _ _ h (zI h hss1 (by intro z;cases z))) (fun a kvs h=>kp _ _ h (zI h hss1 (by intro z;cases z)))⟩,kp _ _ S.rows (hno _ _ S.rows fun a2 ha2 _ _ _ _ _ hf=>?_),S.row.mono fun a2 o2 ha2 he=>?_,kp _ _ S.lin (hint _ _ S.lin),S.sep⟩,e3,o1,z1.mono ?_⟩
    ·obtain⟨row,_,h1,_⟩:=S.row.mem ha2
     rw[h1]at hf
     cases hf
    ·obtain⟨row,_,h1,_⟩:=S.row.mem ha2
     exact kp _ _ he (hint _ _ h1)
    ·unfold bd
     omega
  exact k _ ff _ [] C2 (.inl ⟨by rw[lEa];rfl,rfl⟩) fun b o hb _ hbs=>kp b o (s1 _ _ hb) hbs
theorem zT.keep{C:Addr}{H H':Hp}(f :∀a q,zeA C H a q->zeA C H' a q) :∀{as:List Addr} {qs:List zav},zT C H as qs->zT C H' as qs
 | _,_,.nil=>.nil
 | _,_,.cons h t=>.cons (f _ _ h) (zT.keep f t)
theorem zam.keep{H H':Hp}(f :∀a q,H a=some (qT q)->H' a=some (qT q)) :∀{as:List Addr} {qs:List Rat},zam H as qs->zam H' as qs
 | _,_,.nil=>.nil
 | _,_,.cons h t=>.cons (f _ _ h) (zam.keep f t)
inductive zrq(A:Ad)(vs:List V)(H:Hp)(Q:VK)(E:XK):Prop|I:∀(x dx pa rs b r:Addr) (n N:Nat) (bs:List Int) (qs:List zav) (ps:List Rat) (pl:Vagrao.Plan) (ras qas:List Addr) (sl:Bool),vs=[.ref x,.ref pa,.ref rs,.bl sl]->H x=some (.ins A.zao dx [])->zd4 A.zbY H pa n N b r->H b=some (.lst (bs.map V.int))->H r=some (.lst (ras.map V.ref))->zT A.zaH H ras qs->H rs=some (.lst (qas.map V.ref))->zam H qas ps->ze2 n N bs qs pl->zfM N ps->(∀(H':Hp) (ss ff:Addr) (sa:List Addr),zan A H' x r rs ss ff qs ps pl (zat sl N) sa []->sa.length=1->H ss=none->(∀b o,H b=some o->b≠x->H' b=some o)->Q .non H')->zrq A vs H Q E
theorem zhb(B:Bs P base)(T:Txt K mg A):zH P w K mg base CX0 45 A.ziq A.zhk ["self","plan","ratios","has_slopes"] (zrq A):=by
 have ztu:=zrp (w:=w) B T
 refine T.zlw.ok zrj (fun _ _ _ _ h=>?_) fun _ _ _ s H vs Q E hr h=>?_
 ·obtain⟨x,dx,pa,rs,b,r,n,N,bs,qs,ps,pl,ras,qas,sl,rfl,_⟩:=h
  rfl
 obtain⟨x,dx,pa,rs,b,r,n,N,bs,qs,ps,pl,ras,qas,sl,rfl,hx,⟨dp,hpa⟩,hb,hr1,hras,hrs,hqas,PI0,V0,k⟩:=h
 refine zQa (zaX (pv 0) (zg (pv 1) rfl) rfl) (zQc (zaX (pv 0) (pv 2) rfl) (zQc (zaX (pv 0) (zL (za (zw ztu hr rfl T.zrN T.zht.kp T.ztr .nil zj (za (pv 1) (za (pv 2) (za (pv 3) zc)))) zc)) rfl) (zQl (zh (zaX (pv 0) (zL zc) rfl)) ?_)));intros
 have npx:pa≠x:=zI hpa hx (by
  intro z
  have z2:=(HO.ins.inj z).2.2
  have z3:=congrArg (fun f=>List.lookup ("accounts" : Str) f) z2
  simp only[zby]at z3
  cases z3)
 have nrx :∀{a:Addr} {q:zav},zeA A.zaH H a q->a≠x:=fun {a q} ⟨d,h⟩=>zI h hx (by
  intro z
  have z2:=(HO.ins.inj z).2.2
  have z3:=congrArg (fun f=>List.lookup ("kind" : Str) f) z2
  simp only[zbE]at z3
  cases z3)
 refine⟨_,rfl,pa,_,dp,_,_,rfl,hpa,T.zaI,T.zfY,zkt _ _ _ _,_,rfl,x,_,dx,_,rfl,hx,T.zO,T.zgV,(by show 0<1000;decide),?_⟩
 refine⟨_,rfl,_,rfl,x,_,dx,_,rfl,zd,T.zO,T.zb6,(by show 1<1000;decide),?_⟩
 rw[zaS]
 have kp2 :∀c o,H c=some o->c≠x->upd H x (.ins A.zao dx (zK "ratios" (.ref rs) (zK "plan_rules" (.ref r) []))) c=some o:=fun c o hc hn=>by rw[zf hn];exact hc
 have hx2:upd H x (.ins A.zao dx (zK "ratios" (.ref rs) (zK "plan_rules" (.ref r) []))) x=some (.ins A.zao dx (zK "ratios" (.ref rs) (zK "plan_rules" (.ref r) []))):=zd
 have hfree2 :∀c,upd H x (.ins A.zao dx (zK "ratios" (.ref rs) (zK "plan_rules" (.ref r) []))) c=none->H c=none:=fun c hc=>by
  by_cases z:c=x
  ·rw[z,zd]at hc;cases hc
  ·rw[zf z]at hc;exact hc
 generalize upd H x (.ins A.zao dx (zK "ratios" (.ref rs) (zK "plan_rules" (.ref r) [])))=H2 at kp2 hx2 hfree2
 have nlx :∀{c:Addr} {xs:List V},H c=some (.lst xs)->c≠x:=fun h=>zI h hx (by intro z;cases z)
 have ntx :∀{c:Addr} {q:Rat},H c=some (qT q)->c≠x:=fun h=>zI h hx (by intro z;cases z)
 have hq2:zam H2 qas ps:=by
  have g :∀{as:List Addr} {qs:List Rat},zam H as qs->zam H2 as qs:=by
   intro as qs h
   induction h with
   | nil=>exact .nil
   | cons h t ih=>exact .cons (kp2 _ _ h (ntx h)) ih
  exact g hqas
 have hr2:zT A.zaH H2 ras qs:=by
  have g :∀{as:List Addr} {qs:List zav},zT A.zaH H as qs->zT A.zaH H2 as qs:=by
   intro as qs h
   induction h with
   | nil=>exact .nil
   | cons h t ih=>
    have hn:=nrx h
    obtain⟨d,h⟩:=h
    exact .cons ⟨d,kp2 _ _ h hn⟩ ih
  exact g hras
 have few:=PI0.few
 have VI:ValsIn N ps:=⟨V0.len,by omega,fun q hq=>by
  obtain⟨h1,h2⟩:=zeY (V0.wt q hq)
  exact⟨by omega,by omega⟩⟩
 refine⟨_,rfl,_,rfl,_,rfl,pa,rs,b,r,n,N,bs,qas,ps,sl,rfl,⟨dp,kp2 _ _ hpa npx⟩,kp2 _ _ hb (nlx hb),kp2 _ _ hrs (nlx hrs),hq2,VI,PI0.len,by omega,PI0.begs,fun p1 r1 l1 as1 H3 s3 hp1 hr3 hl1 S1=>?_⟩
 refine⟨zbC,fun ss hss=>?_⟩
 have hx3:=s3 _ _ hx2
 have s4:zq H3 (upd H3 ss (.lst [.ref p1])):=zl hss
 refine⟨_,rfl,x,_,dx,_,rfl,s4 _ _ hx3,T.zO,T.zcy,(by show 2<1000;decide),?_⟩
 refine⟨Nat.zero_le _,fun ff hff=>?_⟩
 have nxs:x≠ss:=zk hx3 hss
 have nxf:x≠ff:=fun z=>by rw[<-z,zd]at hff;cases hff
 have nfx:ff≠x:=fun z=>nxf z.symm
 have hff3:(upd H3 ss (.lst [.ref p1])) ff=none:=by rw[zf nfx]at hff;exact hff
 refine⟨_,rfl,x,_,dx,_,rfl,(by rw[zf nxf,zd]),T.zO,T.zbj,(by show 3<1000;decide),?_⟩
 have kp5 :∀c o,H3 c=some o->c≠x->upd (upd (upd (upd H3 ss (.lst [.ref p1])) x (.ins A.zao dx (zK "sheets" (.ref ss) (zK "ratios" (.ref rs) (zK "plan_rules" (.ref r) []))))) ff (.lst [])) x (.ins A.zao dx (zK "first_fault" (.ref ff) (zK "sheets" (.ref ss) (zK "ratios" (.ref rs) (zK "plan_rules" (.ref r) []))))) c=some o:=fun c o hc hn=>by
  rw[zf hn,zf (zk (s4 _ _ hc) hff3),zf hn]
  exact s4 _ _ hc
 have npx1:p1≠x:=fun z=>by rw[z,hx2]at hp1;cases hp1
 have e0:Sp.zaj ps pl 0=.ok (Sp.zfI ps pl):=rfl
 have hsh:zoh ps (zat sl N) pl=(zaq ps,(bs.map zcd).map (zcl ps (zat sl N))):=by
  unfold zoh
  rw[PI0.beg]
 have o1:=zxq PI0.good (ps:=ps) (by rw[PI0.par];exact V0.len) (W:=zat sl N) (by rw[PI0.par];unfold zat;split<;>omega)
 have z1:=zzI PI0.good (ps:=ps) (by rw[PI0.par];exact V0.len) (zat sl N) (w:=1500) fun q hq=>zeY (V0.wt q hq)
 rw[hsh]at o1 z1
 have kS :∀c o,H3 c=some o->c≠x->_:=kp5
 refine k _ ss ff [p1] ⟨⟨dx,zd⟩,⟨ras,kp5 _ _ (s3 _ _ (kp2 _ _ hr1 (nlx hr1))) (nlx hr1),?_⟩,⟨qas,kp5 _ _ (s3 _ _ (kp2 _ _ hrs (nlx hrs))) (nlx hrs),?_⟩,?_,(by simp),fun i a ha=>?_,?_,.inl rfl⟩ rfl (hfree2 _ (s3.free hss)) fun c o hc hn=>kp5 _ _ (s3 _ _ (kp2 _ _ hc hn)) hn
 ·exact zT.keep (fun a q ha=>by
   have hn:=nrx ha
   obtain⟨d,h⟩:=ha
   exact⟨d,kp5 _ _ (s3 _ _ (kp2 _ _ h hn)) hn⟩) hras
 ·exact zam.keep (fun a q ha=>kp5 _ _ (s3 _ _ (kp2 _ _ ha (ntx ha))) (ntx ha)) hqas
 ·have nsx:ss≠x:=fun z=>nxs z.symm
  have nsf:ss≠ff:=fun z=>by rw[<-z,zd]at hff3;cases hff3
  rw[zf nsx,zf nsf,zf nsx,zd]
  rfl
 ·have hi:i=0:=by
   cases i with
   | zero=>rfl
   | succ j=>simp at ha
  subst hi
  have ea:p1=a:=oSi ha
  subst ea
  obtain⟨d1,c1,h1,dcs,ddc,fsc,g1,g2,g3⟩:=S1.ins
  have hne :∀{c:Addr} {xs:List V},H3 c=some (.lst xs)->c≠x:=fun h=>zI h hx3 (by intro z;cases z)
  refine⟨r1,l1,as1,_,[],_,⟨⟨d1,c1,kp5 _ _ h1 npx1,dcs,ddc,fsc,kp5 _ _ g1 (zI g1 hx3 (by
   intro z
   have z2:=(HO.ins.inj z).2.2
   have z3:=congrArg (fun f=>List.lookup ("whole" : Str) f) z2
   simp only[zdi]at z3
   cases z3)),kp5 _ _ g2 (zI g2 hx3 (by intro z;cases z)),g3⟩,kp5 _ _ S1.rows (hne S1.rows),S1.row.mono fun a2 o2 ha2 he=>?_,kp5 _ _ S1.lin (hne S1.lin),S1.sep⟩,e0,o1,z1.mono ?_⟩
  ·obtain⟨row,_,h1,_⟩:=S1.row.mem ha2
   exact kp5 _ _ he (hne h1)
  ·rw[PI0.par]
   unfold bd
   omega
 ·rw[zf nfx,zd]
  rfl
def zbO(ps:List Rat)(pl:Vagrao.Plan)(t:Nat):List Int:=match Sp.zaj ps pl t with
 | .ok _=>[]
 | .error e=>[(e.1.1:Int),(e.1.2:Int),(e.2:Int)]
inductive zqF(A:Ad)(vs:List V)(H:Hp)(Q:VK)(E:XK):Prop|I:∀(c pr rs ss ff:Addr) (qs:List zav) (ps:List Rat) (pl:Vagrao.Plan) (W:Nat) (sa:List Addr) (fl:List Int) (n N:Nat) (bs:List Int) (t:Nat),vs=[.ref c,.int (t:Int)]->zan A H c pr rs ss ff qs ps pl W sa fl->ze2 n N bs qs pl->zfM N ps->sa.length<=21->t<=20->(∀(H':Hp) (f2 l:Addr) (sa2:List Addr) (fl2:List Int),zan A H' c pr rs ss f2 qs ps pl W sa2 fl2->sa2.length<=21->(∀b o,H b=some o->b≠c->b≠ss->H' b=some o)->H' l=some (.lst ((zbO ps pl t).map V.int))->(zbO ps pl t=[]->t<sa2.length)->Q (.ref l) H')->zqF A vs H Q E
theorem zan.ok_lt{A:Ad}{H:Hp}{c pr rs ss ff:Addr}{qs:List zav}{ps:List Rat}{pl:Vagrao.Plan}{W:Nat}{sa:List Addr}{fl:List Int}(C:zan A H c pr rs ss ff qs ps pl W sa fl){t:Nat}(h:t<sa.length) :∃s,Sp.zaj ps pl t=.ok s:=by
 obtain⟨r,l,as,sh,ln,s,_,e,_⟩:=C.each t _ (gge h)
 exact⟨s,e⟩
theorem zcD(B:Bs P base)(T:Txt K mg A):zH P w K mg base CX0 48 A.zd8 A.zdI ["self","t"] (zqF A):=by
 have zr0:=zqE (w:=w) B T
 refine T.zfO.ok zks (fun _ _ _ _ h=>?_) fun _ _ _ s H vs Q E hr h=>?_
 ·obtain⟨c,pr,rs,ss,ff,qs,ps,pl,W,sa,fl,n,N,bs,t,rfl,_⟩:=h
  rfl
 obtain⟨c,pr,rs,ss,ff,qs,ps,pl,W,sa,fl,n,N,bs,t,rfl,C,PI0,V0,h21,ht,k⟩:=h
 refine zQa (zlG PassesOwn.never (PW.pt (zkV (z5 zds (zaN zaC (by rfl) T.zcw PySem.boot_len (za (zg (pv 0) rfl) zc)) (pv 1) (nomark _)) (ziV (zgo (zaG (zg (pv 0) rfl) (fun _=>rfl)))))) (zh (zay (zi4 (pv 0) T.zO T.zqS zr0 hr T.zrX .nil zj)))) (zQc (zY (PW.pt (zkV (zaG (zg (pv 0) rfl) (fun _=>rfl)) (ziV (z5 zds (zu zA (zg (pv 0) rfl) zi (fun _ _=>rfl)) (pv 1) (nomark _))))) (zh (zo (zgb zeW (by rfl) T.zlA boot_list (za (zg (pv 0) rfl) zc)))) zJ) (zQl (zh (zo (zL zc))) ?_));intros
 refine⟨fun m σ H'=>σ = [some (.ref c),some (.int (t:Int))]/\∃(f2:Addr) (sa2:List Addr) (fl2:List Int),zan A H' c pr rs ss f2 qs ps pl W sa2 fl2/\sa2.length<=21/\(∀b o,H b=some o->b≠c->b≠ss->H' b=some o)/\m=2*(22-sa2.length)-(if fl2=[]then 0 else 1),
  ⟨_,rfl,ff,sa,fl,C,h21,fun b o hb _ _=>hb,rfl⟩,?_⟩
 rintro m σ H1 ⟨rfl,f1,sa1,fl1,C1,h1,kp1,rfl⟩
 obtain⟨dx,hc⟩:=C1.ins
 refine⟨_,rfl,c,_,dx,_,_,rfl,hc,T.zO,T.zcy,zd5 _ _ _ _,ss,_,rfl,.inl (SqL.of C1.sheets),_,rfl,_,_,rfl,rfl,_,rfl,?_⟩
 rw[lmm]
 have fin:(¬((sa1.length:Int)<=t)\/fl1≠[])->tSeq (tIfS (tAnd (fun σ H Q=>tFld K (zbd 0) "first_fault" σ H fun x H'=>∃k,TruV K x H' k/\Q k H') (tTest (tOp (rI0 fun i j=>.bl (decide (i<=j))) (tOp (rIxL K) (tFld K (zbd 0) "first_fault") (tC (.int 0))) (zbd 1))))
   (tRet (tCB (fun xs H Q=>∃p ys,xs=[.ref p]/\(SqL K H p ys\/SqT K H p ys)/\∀l,H l=none->Q (.ref l) (upd H l (.lst ys))) (zc0 (tFld K (zbd 0) "first_fault") zdf))) tNext) (tRet (tLst zdf)) {nx:=fun _ H'=>Q .non H',rt:=Q} [some (.ref c),some (.int (t:Int))] H1:=by
  intro hend
  refine⟨_,rfl,c,_,dx,_,_,rfl,hc,T.zO,T.zbj,zfV _ _ _ _,_,.inl ⟨_,SqL.of C1.fau,rfl⟩,?_⟩
  have empty:(∃s,Sp.zaj ps pl t=.ok s)->t<sa1.length->tRet (tLst zdf) {nx:=fun _ H'=>Q .non H',rt:=Q} [some (.ref c),some (.int (t:Int))] H1:=by
   rintro⟨s,e⟩ hlt
   refine⟨Nat.zero_le _,fun l hl=>?_⟩
   have s1:zq H1 (upd H1 l (.lst [])):=zl hl
   have e2:zbO ps pl t=[]:=by unfold zbO;rw[e]
   exact k _ f1 l sa1 fl1 (C1.same s1) h1 (fun b o hb hn1 hn2=>s1 _ _ (kp1 b o hb hn1 hn2)) (by rw[zd,e2];rfl) fun _=>hlt
  rcases C1.fl with e|⟨place,kind,e,eF⟩
  ·subst e
   refine zaT ?_
   have hlt:t<sa1.length:=by
    rcases hend with h|h
    ·omega
    ·exact absurd rfl h
   exact empty (C1.ok_lt hlt) hlt
  ·subst e
   refine zaY ?_
   refine⟨_,rfl,c,_,dx,_,_,rfl,hc,T.zO,T.zbj,zfV _ _ _ _,f1,_,_,_,rfl,rfl,SqL.of C1.fau,rfl,_,rfl,_,_,rfl,rfl,_,rfl,?_⟩
   refine zaZ (fun e1=>?_) (fun e1=>?_)
   ·have hle:sa1.length<=t:=by have:=oDt e1;omega
    have eT:Sp.zaj ps pl t=.error ((sa1.length,place),kind):=by
     have:=Sp.zg8 eF (t-sa1.length)
     rw[show sa1.length+(t-sa1.length)=t by omega]at this
     exact this
    have e2:zbO ps pl t=[(sa1.length:Int),(place:Int),(kind:Int)]:=by unfold zbO;rw[eT]
    refine⟨_,rfl,c,_,dx,_,_,rfl,hc,T.zO,T.zbj,zfV _ _ _ _,f1,_,rfl,.inl (SqL.of C1.fau),fun l hl=>?_⟩
    have s1:=zl (o:=.lst (([(sa1.length:Int),(place:Int),(kind:Int)]:List Int).map V.int)) hl
    exact k _ f1 l sa1 _ (C1.same s1) h1 (fun b o hb hn1 hn2=>s1 _ _ (kp1 b o hb hn1 hn2)) (by rw[zd,e2]) fun h=>by rw[e2]at h;cases h
   ·have hlt:t<sa1.length:=by
     have:¬((sa1.length:Int)<=t):=fun z=>e1 (decide_eq_true z)
     omega
    exact empty (C1.ok_lt hlt) hlt
 refine zaZ (fun e1=>?_) (fun e1=>?_)
 ·have hle:(sa1.length:Int)<=t:=oDt e1
  refine⟨_,rfl,c,_,dx,_,_,rfl,hc,T.zO,T.zbj,zfV _ _ _ _,_,.inl ⟨_,SqL.of C1.fau,rfl⟩,?_⟩
  by_cases e:fl1=[]
  ·subst e
   refine zaY ⟨fun σ' H'=>∃m',m'<2*(22-sa1.length)-(if([]:List Int)=[]then 0 else 1)/\(σ'=[some (.ref c),some (.int (t:Int))]/\∃(f2:Addr) (sa2:List Addr) (fl2:List Int),zan A H' c pr rs ss f2 qs ps pl W sa2 fl2/\sa2.length<=21/\(∀b o,H b=some o->b≠c->b≠ss->H' b=some o)/\m'=2*(22-sa2.length)-(if fl2=[]then 0 else 1)),fun σ' H' q=>q,?_⟩
   refine⟨_,rfl,c,dx,_,rfl,hc,zaz _ _ _ _,c,pr,rs,ss,f1,qs,ps,pl,W,sa1,n,N,bs,rfl,C1,PI0,V0,by omega,fun H2 f2 sa2 fl2 C2 hcase kp2=>?_⟩
   refine⟨_,?_,rfl,f2,sa2,fl2,C2,?_,fun b o hb hn1 hn2=>kp2 b o (kp1 b o hb hn1 hn2) hn1 hn2,rfl⟩
   ·rw[if_pos rfl]
    rcases hcase with⟨q1,q2⟩|⟨q1,q2⟩
    ·rw[q2,if_pos rfl]
     omega
    ·rw[if_neg q2]
     omega
   ·rcases hcase with⟨q1,q2⟩|⟨q1,q2⟩<;>omega
  ·have e2:(!(fl1.map V.int).isEmpty)=true:=by
    cases fl1 with
    | nil=>exact absurd rfl e
    | cons x y=>rfl
   rw[e2]
   exact zaT (fin (.inr e))
 ·exact zaT (fin (.inl fun z=>e1 (decide_eq_true z)))
inductive zuC(A:Ad)(vs:List V)(H:Hp)(Q:VK)(E:XK):Prop|I:∀(c dx pr rs ss ff:Addr) (sa:List Addr) (t:Nat) (a:Addr),vs=[.ref c,.int (t:Int)]->H c=some (.ins A.zao dx (zbN pr rs ss ff))->H ss=some (.lst (sa.map V.ref))->sa[t]? = some a->Q (.ref a) H->zuC A vs H Q E
theorem zbl(T:Txt K mg A):zH P w K mg base CX0 41 A.zhm A.zgL ["self","t"] (zuC A):=by
 refine T.zkf.ok zqx (fun _ _ _ _ h=>?_) fun _ _ _ s H vs Q E hr h=>?_
 ·obtain⟨c,dx,pr,rs,ss,ff,sa,t,a,rfl,_⟩:=h
  rfl
 ·obtain⟨c,dx,pr,rs,ss,ff,sa,t,a,rfl,hc,hs,ha,k⟩:=h
  refine⟨_,(zh (zo (zu zA (zg (pv 0) rfl) (pv 1) (fun _ _=>rfl)))),?_⟩
  exact⟨_,rfl,c,_,dx,_,_,rfl,hc,T.zO,T.zcy,zd5 _ _ _ _,_,rfl,ss,_,_,_,rfl,rfl,SqL.of hs,zb8 (by rw[gEm,ha];rfl),k⟩
theorem zae.readN{C:SC}{H:Hp}{p r l:Addr}{as:List Addr}{sh:Sh}{lines:List Int}(S:zae C H p r l as sh lines){a:Nat}(h:a<sh.2.length) :
  ∃c,atI (as.map V.ref) (a:Int)=some (V.ref c)/\H c=some (.lst ((zD sh.2 a).map V.int)):=by
 obtain⟨c,hc,hm,h1,h2⟩:=S.at_ h
 exact⟨c,zb8 (by rw[gEm,hc];rfl),h1⟩
inductive zc6(A:Ad)(vs:List V)(H:Hp)(Q:VK)(E:XK):Prop|I:∀(rt:Addr) (m:Nat) (p r l:Addr) (as:List Addr) (sh:Sh) (lines:List Int) (a:Nat),vs=[.ref p,.int (a:Int)]->zae ⟨A.zR,A.zU,rt,m⟩ H p r l as sh lines->a<sh.2.length->0<(zD sh.2 a).length->m<=900->bI sh.1<=60000000->QtQ H (zn sh.1 (gI (zD sh.2 a) 0)) Q->zc6 A vs H Q E
theorem zcQ(B:Bs P base)(T:Txt K mg A):zH P w K mg base CX0 43 A.zhe A.zgH ["self","a"] (zc6 A):=by
 have zaW:=zcb (w:=w) B T
 refine T.zkc.ok zqt (fun _ _ _ _ h=>?_) fun _ _ _ s H vs Q E hr h=>?_
 ·obtain⟨rt,m,p,r,l,as,sh,lines,a,rfl,_⟩:=h
  rfl
 ·obtain⟨rt,m,p,r,l,as,sh,lines,a,rfl,S,ha,h0,hm,hz,k⟩:=h
  refine⟨_,(zh (zo (zp (zg (pv 0) rfl) T.zbt T.zcf zaW hr T.zcp .nil zj (za (zu zA (zu zA (zg (pv 0) rfl) (pv 1) (fun _ _=>rfl)) zi (fun _ _=>rfl)) zc)))),?_⟩
  obtain⟨dx,c,hp,hc⟩:=S.ins
  obtain⟨dc,dd,fs,hsc,_,_⟩:=id hc
  obtain⟨ra,hra,hrow⟩:=S.readN ha
  exact⟨_,rfl,p,_,dx,_,_,rfl,hp,T.zz,T.zbi,zbI _ _ _ _,c,dc,_,rfl,hsc,zc5 _ _,_,rfl,p,_,dx,_,_,rfl,hp,T.zz,T.z7,zap _ _ _ _,_,rfl,r,_,_,_,rfl,rfl,SqL.of S.rows,hra,ra,_,_,_,rfl,rfl,SqL.of hrow,zb8 (zbh (zd1 h0)),
   c,sh.1,_,m,rfl,hc,by omega,hz,k⟩
inductive zhc(A:Ad)(vs:List V)(H:Hp)(Q:VK)(E:XK):Prop|I:∀(rt:Addr) (m:Nat) (p r l:Addr) (as:List Addr) (sh:Sh) (lines:List Int) (a i:Nat) (n d:Int),vs=[.ref p,.int (a:Int),.int (i:Int)]->zae ⟨A.zR,A.zU,rt,m⟩ H p r l as sh lines->a<sh.2.length->i+1<(zD sh.2 a).length->RatIx H rt i n d->m<=900->bI sh.1<=20000000->bI n<=10000->QtQ H (zn (sh.1*rsv n) (gI (zD sh.2 a) (i+1))) Q->zhc A vs H Q E
theorem zfo(B:Bs P base)(T:Txt K mg A):zH P w K mg base CX0 44 A.zik A.zhf ["self","a","p"] (zhc A):=by
 have zaW:=(zcb (w:=w) B T).up 43
 have zbR:=@zdw P w K mg base A T
 have zdA:=(@zgB P w K mg base A T).up 43
 refine T.zlt.ok zre (fun _ _ _ _ h=>?_) fun _ _ _ s H vs Q E hr h=>?_
 ·obtain⟨rt,m,p,r,l,as,sh,lines,a,i,n,d,rfl,_⟩:=h
  rfl
 ·obtain⟨rt,m,p,r,l,as,sh,lines,a,i,n,d,rfl,S,ha,h0,⟨qas,qa,hrt,hq,hqa⟩,hm,hz,hn,k⟩:=h
  refine⟨_,(zh (zo (zp (zp (zg (pv 0) rfl) T.zbt T.zdz zbR hr T.zdO .nil zj (za (zw zdA hr rfl T.zgR T.zes.kp T.zh7 .nil zj (za (zu zA (zg (pv 0) rfl) (pv 2) (fun _ _=>rfl)) zc)) zc)) T.zbt T.zcf zaW hr T.zcp .nil zj (za (zu zA (zu zA (zg (pv 0) rfl) (pv 1) (fun _ _=>rfl)) (zW zb7 zi (pv 2)) (fun _ _=>rfl)) zc)))),?_⟩
  obtain⟨dx,c,hp,hc⟩:=S.ins
  obtain⟨dc,dd,fs,hsc,_,_⟩:=id hc
  obtain⟨ra,hra,hrow⟩:=S.readN ha
  have b3:=zfK n
  have b4:=zbc sh.1 (rsv n)
  refine⟨_,rfl,p,_,dx,_,_,rfl,hp,T.zz,T.zbi,zbI _ _ _ _,c,dc,_,rfl,hsc,zc5 _ _,_,rfl,p,_,dx,_,_,rfl,hp,T.zz,T.zbU,zcV _ _ _ _,_,rfl,rt,_,_,_,rfl,rfl,SqL.of hrt,zb8 (by rw[gEm,hq];rfl),
   qa,n,d,rfl,SqT.of hqa,c,sh.1,rsv n,m,rfl,hc,ziY n,by omega,by omega,by omega,fun c2 H2 s2 hc2 Sc2=>?_⟩
  obtain⟨dc2,dd2,fs2,hsc2,_,_⟩:=id Sc2
  refine⟨c2,dc2,_,rfl,hsc2,zc5 _ _,_,rfl,p,_,dx,_,_,rfl,s2 _ _ hp,T.zz,T.z7,zap _ _ _ _,_,rfl,r,_,_,_,rfl,rfl,SqL.of (s2 _ _ S.rows),hra,_,rfl,_,_,rfl,rfl,ra,_,_,_,rfl,rfl,SqL.of (s2 _ _ hrow),zei (by omega:(1:Int)+(i:Int)=((i+1:Nat):Int)) (zbh (zd1 h0)),
   c2,sh.1*rsv n,_,m+1,rfl,Sc2,by omega,by omega,fun q H3 s3 hq3 hq4=>?_⟩
  exact k q H3 (s2.trans s3) (s2.free hq3) hq4
def rowHd(sh:Sh):List Int:=sh.2.map fun row=>gI row 0
inductive zzU(A:Ad)(vs:List V)(H:Hp)(Q:VK)(E:XK):Prop|I:∀(rt:Addr) (m:Nat) (p r l:Addr) (as:List Addr) (sh:Sh) (lines:List Int),vs=[.ref p]->zae ⟨A.zR,A.zU,rt,m⟩ H p r l as sh lines->sh.2.length<=50->m<=900->bI sh.1<=60000000->QtQ H (zn sh.1 (rowHd sh).sum) Q->zzU A vs H Q E
theorem zrr(B:Bs P base)(T:Txt K mg A):zH P w K mg base CX0 43 A.zil A.zhg ["self"] (zzU A):=by
 have zaW:=zcb (w:=w) B T
 refine T.zlu.ok zha (fun _ _ _ _ h=>?_) fun _ _ _ s H vs Q E hr h=>?_
 ·obtain⟨rt,m,p,r,l,as,sh,lines,rfl,_⟩:=h
  rfl
 ·obtain⟨rt,m,p,r,l,as,sh,lines,rfl,S,h5,hm,hz,k⟩:=h
  refine⟨_,(zh (zo (zp (zg (pv 0) rfl) T.zbt T.zcf zaW hr T.zcp .nil zj (za (zaN (zBz rfl) (by rfl) T.zB5 boot_sum (za (zfR (te:=tOp (rIxL K) (zbd 1) (tC (.int 0))) rfl zha.nd (zdP (zg (pv 0) rfl)) (zbQ (own:=[("row",1)]) (by rfl)) (fun _ _ _ _ _=>(zag (i:=1) zha.nd rfl (Or.inl rfl))) (fun _ _ _ _ _=>zcq) (fun _ _ _ _ _=>(zu zA (pv 1) zi (fun _ _=>rfl)))) zc)) zc)))),?_⟩
  obtain⟨dx,c,hp,hc⟩:=S.ins
  obtain⟨dc,dd,fs,hsc,_,_⟩:=id hc
  have hlen:=S.len
  refine⟨_,rfl,p,_,dx,_,_,rfl,hp,T.zz,T.zbi,zbI _ _ _ _,c,dc,_,rfl,hsc,zc5 _ _,_,rfl,p,_,dx,_,_,rfl,hp,T.zz,T.z7,zap _ _ _ _,r,rfl,⟨_,SqL.of S.rows⟩,fun D hD=>?_⟩
  refine zgc (K:=K) (a:=r) (xs:=as.map V.ref) (fun i H'=>zq H H'/\H' D=some (.lst (((rowHd sh).take i).map V.int))) ⟨zl hD,zd⟩ (fun i H' _ ⟨s,_⟩=>s.seq (SqL.of S.rows)) ?_ ?_
  ·rintro i x H' hx ⟨s2,hD2⟩
   obtain⟨z,hz2,rfl⟩:=ze0 hx
   obtain⟨row,h1,h2,h3⟩:=(S.row.same s2).get hz2
   have hlt:i<as.length:=(List.getElem?_eq_some_iff.mp hz2).1
   have hh:(rowHd sh)[i]? = some (gI row 0):=by unfold rowHd;rw[gEm,h1];rfl
   refine⟨rfl,_,rfl,z,_,_,_,rfl,rfl,SqL.of h2,zb8 (zbh (zd1 h3)),_,hD2,(by rw[lmm,List.length_take];exact zbe (by omega)),fun c o hc=>?_,?_⟩
   ·rw[zf (zk hc hD)];exact s2 _ _ hc
   ·rw[zd,Pr.zab hh,lMa];rfl
  ·rintro H' ⟨s2,hD2⟩
   rw[tOl (by unfold rowHd;rw[lmm,lmm];omega)]at hD2
   refine⟨D,_,rfl,SqL.of hD2,c,sh.1,_,m,rfl,hc.same s2,by omega,hz,fun q H3 s3 hq3 hq4=>?_⟩
   exact k q H3 (s2.trans s3) (s2.free hq3) hq4
inductive zvT(K:Fg)(CS:Addr)(vs:List V)(H:Hp)(Q:VK)(E:XK):Prop|I:∀(c l wl:Addr) (S:Int) (m:Nat) (ns:List Int) (was:List Addr) (ws:List (Int×Int)),vs=[.ref c,.ref l,.ref wl]->zbz CS H c S m->SqL K H l (ns.map V.int)->SqL K H wl (was.map V.ref)->zct H was ws->ns.length=ws.length->ws.length<=50->zaU 10000000 ns->(∀p,p∈ws->0<p.2/\bI p.2<=100000/\bI p.1<=1000000)->m<=900->bI S<=20000000->QtQ H (sumQ ((ns.zip ws).map (wRat S))) Q->zvT K CS vs H Q E
theorem zpb(B:Bs P base)(T:Txt K mg A):zH P w K mg base CX0 44 A.zl4 A.zkA ["scale","numbers","weights"] (zvT K A.zU):=by
 have zaW:=(zcb (w:=w) B T).up 43
 have zbR:=@zdw P w K mg base A T
 have zev:=zgg (w:=w) B T
 refine T.zhG.ok zdF (fun vs H Q E h=>?_) (fun cdv A' outer s H vs Q E hr h=>?_)
 ·obtain⟨c,l,wl,S,m,ns,was,ws,rfl,_⟩:=h
  rfl
 ·obtain⟨c,l,wl,S,m,ns,was,ws,rfl,hc,hl,hwl,hws,hlen,h5,hsz,hw,hm,hS,k⟩:=h
  have B:=znu (w:=w) (K:=K) (mg:=mg) (outer:=outer) (H:=H) (E:=E) zdF B hr (by decide)
  refine zQa (qD 3 zdF.nd (zw zev hr rfl T.zgl T.zcR.kp T.zgW .nil zj (za (pv 2) zc))) (zQc (qD 4 zdF.nd zi) (zQc (zde PassesOwn.never rfl (zm4 rfl T.zn1 (za (pv 1) (za (pv 2) zc))) (zhI (n:=2) rfl (zbP (zag (i:=5) zdF.nd rfl (Or.inl rfl)) (zbP (zag (i:=6) zdF.nd rfl (Or.inl rfl)) zga))) (zh (ztG (i:=4) zdF.nd rfl (Or.inl rfl) (zW za2 (zW za2 (pv 5) (zu z6 (pv 6) zi (fun _ _=>rfl))) (zW (zlN B) (pv 3) (zu z6 (pv 6) zi (fun _ _=>rfl)))) zx8))) (zQl (zh (zo (zp (zp (pv 0) T.zbt T.zdz zbR hr T.zdO .nil zj (za (pv 3) zc)) T.zbt T.zcf zaW hr T.zcp .nil zj (za (pv 4) zc)))) ?_)));intros
  have wlen:=hws.length
  have posS:=hc.pos
  obtain⟨p1,_,p3⟩:=zlW ws 1 (by decide) fun p hp=>(hw p hp).1
  have hsh0:0<zbo ws:=p1
  have hshz:bI (zbo ws)<=1+ws.length*100000:=zhD ws 1 1 (by decide) (by decide) fun p hp=>⟨(hw p hp).1,(hw p hp).2.1⟩
  have hsh2:ws.length*100000<=50*100000:=Nat.mul_le_mul_right _ h5
  refine⟨_,rfl,wl,was,ws,rfl,hwl,hws,h5,fun p hp=>⟨(hw p hp).1,nLt (hw p hp).2.1 (by decide)⟩,?_⟩
  refine⟨_,rfl,_,rfl,l,wl,_,_,rfl,hl,hwl,?_⟩
  refine zwK (K:=K) (a:=l) (b:=wl) (xs:=ns.map V.int) (ys:=was.map V.ref) (by rw[lmm,lmm];omega) (fun i σ H'=>∃(v5 v6:Option V),σ = [some (.ref c),some (.ref l),some (.ref wl),some (.int (zbo ws)),some (.int (((ns.zip ws).take i).map (wTerm (zbo ws))).sum),v5,v6]/\zq H H')
   ⟨none,none,rfl,zq.refl _⟩ (fun i σ H' _ ⟨_,_,_,s⟩=>⟨s.seq hl,s.seq hwl⟩) ?_ ?_
  ·rintro i x y T' σ H' hx hy hT ⟨v5,v6,rfl,s1⟩
   obtain⟨u,hu,rfl⟩:=zgC hx
   obtain⟨z,hz,rfl⟩:=ze0 hy
   obtain⟨q,hq1,hq2⟩:=(hws.same s1).get hz
   have hqm:=mge hq1
   obtain⟨g1,g2,g3⟩:=hw q hqm
   have hzi:(ns.zip ws)[i]? = some (u,q):=by
    rw[List.getElem?_zip_eq_some]
    exact⟨hu,hq1⟩
   have t1:zq H' (upd H' T' (.tup [.int u,.ref z])):=zl hT
   have bu:=hsz u (mge hu)
   have bm:=zbc u q.1
   have bd':=zk6 g1 (p3 q hqm)
   refine⟨T',_,rfl,SqT.of zd,rfl,_,_,rfl,_,_,rfl,rfl,?_⟩
   refine⟨_,rfl,_,rfl,_,rfl,z,_,_,_,rfl,rfl,SqT.of (t1 _ _ hq2),rfl,_,_,rfl,rfl,zcU (by omega) (by omega),_,rfl,_,rfl,z,_,_,_,rfl,rfl,SqT.of (t1 _ _ hq2),rfl,_,_,rfl,rfl,g1,_,_,rfl,rfl,zcU (by omega) ?_,_,_,rfl,rfl,?_⟩
   ·have:bI (zbo ws/q.2)<=bI (zbo ws):=bd'
    omega
   refine⟨some (.int u),some (.ref z),?_,s1.trans t1⟩
   rw[Pr.zab hzi,lMa,show List.map (wTerm (zbo ws)) [(u,q)]=[wTerm (zbo ws) (u,q)]from rfl,zsA]
   rfl
  ·rintro σ H' ⟨v5,v6,rfl,s1⟩
   rw[tOl (by rw[List.length_zip,lmm];omega)]
   obtain⟨dc,dd,fs,hsc,_,_⟩:=id hc
   have b4:=zbc S (zbo ws)
   refine⟨_,rfl,c,dc,_,rfl,s1 _ _ hsc,zc5 _ _,_,rfl,c,S,zbo ws,m,rfl,hc.same s1,hsh0,by omega,by omega,by omega,fun c2 H2 s2 hc2 Sc2=>?_⟩
   obtain⟨dc2,dd2,fs2,hsc2,_,_⟩:=id Sc2
   refine⟨c2,dc2,_,rfl,hsc2,zc5 _ _,_,rfl,c2,S*zbo ws,_,m+1,rfl,Sc2,by omega,by omega,fun q H3 s3 hq3 hq4=>?_⟩
   refine k q H3 (s1.trans (s2.trans s3)) (s1.free (s2.free hq3)) ?_
   rw[hq4,znh posS hsh0]
   rintro⟨u,q'⟩ hz
   have hm':q'∈ws:=(List.of_mem_zip hz).2
   exact⟨(hw q' hm').1,p3 q' hm'⟩
def zfW(sh:Sh)(j:Nat):List Int:=sh.2.map fun row=>gI row j
inductive zsK(K:Fg)(A:Ad)(vs:List V)(H:Hp)(Q:VK)(E:XK):Prop|I:∀(rt:Addr) (m:Nat) (p r l:Addr) (as:List Addr) (sh:Sh) (lines:List Int) (i:Nat) (n d:Int) (wl:Addr) (was:List Addr) (ws:List (Int×Int)),vs=[.ref p,.int (i:Int),.ref wl]->zae ⟨A.zR,A.zU,rt,m⟩ H p r l as sh lines->(∀row,row∈sh.2->i+1<row.length)->RatIx H rt i n d->SqL K H wl (was.map V.ref)->zct H was ws->sh.2.length=ws.length->ws.length<=50->Sz 10000000 sh->(∀p,p∈ws->0<p.2/\bI p.2<=100000/\bI p.1<=1000000)->m<=800->bI n<=10000->QtQ H (sumQ (((zfW sh (i+1)).zip ws).map (wRat (sh.1*rsv n)))) Q->zsK K A vs H Q E
theorem zqG(B:Bs P base)(T:Txt K mg A):zH P w K mg base CX0 45 A.zhh A.zgI ["self","p","weights"] (zsK K A):=by
 have zmq:=zpb (w:=w) B T
 have zbR:=(@zdw P w K mg base A T).up 44
 have zdA:=(@zgB P w K mg base A T).up 44
 refine T.zkd.ok zgx (fun _ _ _ _ h=>?_) fun _ _ _ s H vs Q E hr h=>?_
 ·obtain⟨rt,m,p,r,l,as,sh,lines,i,n,d,wl,was,ws,rfl,_⟩:=h
  rfl
 ·obtain⟨rt,m,p,r,l,as,sh,lines,i,n,d,wl,was,ws,rfl,S,hrow,⟨qas,qa,hrt,hq,hqa⟩,hwl,hws,hlen,h5,hsz,hw,hm,hn,k⟩:=h
  refine zQa (zlK (te:=tOp (rIxL K) (zbd 4) (tOp (rI0 fun i j=>.int (i+j)) (tC (.int 1)) (zbd 1))) rfl zgx.nd (i:=3) rfl rfl rfl (zdP (zg (pv 0) rfl)) (zbQ (own:=[("row",4)]) (by rfl)) (fun _ _ _ _ _=>(zag (i:=4) zgx.nd rfl (Or.inl rfl))) (fun _ _ _ _ _=>zcq) (fun _ _ _ _ _=>(zu zA (pv 4) (zW zb7 zi (pv 1)) (fun _ _=>rfl)))) (zQl (zh (zo (zw zmq hr rfl T.zpf T.zhG.kp T.zqX .nil zj (za (zp (zg (pv 0) rfl) T.zbt T.zdz zbR hr T.zdO .nil zj (za (zw zdA hr rfl T.zgR T.zes.kp T.zh7 .nil zj (za (zu zA (zg (pv 0) rfl) (pv 1) (fun _ _=>rfl)) zc)) zc)) (za (pv 3) (za (pv 2) zc)))))) ?_);intros
  obtain⟨dx,c,hp,hc⟩:=S.ins
  obtain⟨dc,dd,fs,hsc,_,_⟩:=id hc
  have alen:=S.len
  have b3:=zfK n
  have b4:=zbc sh.1 (rsv n)
  have b5:=hsz.sc
  refine⟨_,rfl,p,_,dx,_,_,rfl,hp,T.zz,T.z7,zap _ _ _ _,r,rfl,⟨_,SqL.of S.rows⟩,fun D hD=>?_⟩
  refine zgc (K:=K) (a:=r) (xs:=as.map V.ref) (fun j H'=>zq H H'/\H' D=some (.lst (((zfW sh (i+1)).take j).map V.int))) ⟨zl hD,zd⟩ (fun j H' _ ⟨s,_⟩=>s.seq (SqL.of S.rows)) ?_ ?_
  ·rintro j x H' hx ⟨s2,hD2⟩
   obtain⟨z,hz2,rfl⟩:=ze0 hx
   obtain⟨row,h1,h2,h3⟩:=(S.row.same s2).get hz2
   have hlt:j<as.length:=(List.getElem?_eq_some_iff.mp hz2).1
   have hh:(zfW sh (i+1))[j]? = some (gI row (i+1)):=by unfold zfW;rw[gEm,h1];rfl
   have hi1:=hrow row (mge h1)
   refine⟨rfl,_,rfl,_,rfl,_,_,rfl,rfl,z,_,_,_,rfl,rfl,SqL.of h2,zei (by omega:(1:Int)+(i:Int)=((i+1:Nat):Int)) (zbh (zd1 hi1)),_,hD2,(by rw[lmm,List.length_take];exact zbe (by omega)),fun c o hc=>?_,?_⟩
   ·rw[zf (zk hc hD)];exact s2 _ _ hc
   ·rw[zd,Pr.zab hh,lMa];rfl
  ·rintro H' ⟨s2,hD2⟩
   rw[tOl (by unfold zfW;rw[lmm,lmm];omega)]at hD2
   refine⟨_,rfl,p,_,dx,_,_,rfl,s2 _ _ hp,T.zz,T.zbi,zbI _ _ _ _,c,dc,_,rfl,s2 _ _ hsc,zc5 _ _,_,rfl,p,_,dx,_,_,rfl,s2 _ _ hp,T.zz,T.zbU,zcV _ _ _ _,_,rfl,rt,_,_,_,rfl,rfl,SqL.of (s2 _ _ hrt),zb8 (by rw[gEm,hq];rfl),
    qa,n,d,rfl,SqT.of (s2 _ _ hqa),c,sh.1,rsv n,m,rfl,hc.same s2,ziY n,by omega,by omega,by omega,fun c2 H2 s3 hc2 Sc2=>?_⟩
   refine⟨_,rfl,_,rfl,c2,D,wl,sh.1*rsv n,m+1,zfW sh (i+1),was,ws,rfl,Sc2,SqL.of (s3 _ _ hD2),(s2.trans s3).seq hwl,hws.same (s2.trans s3),by unfold zfW;rw[lmm];exact hlen,h5,fun y hy=>?_,hw,by omega,by omega,fun q H3 s4 hq3 hq4=>?_⟩
   ·unfold zfW at hy
    rw[List.mem_map]at hy
    obtain⟨row,hr1,rfl⟩:=hy
    exact(hsz.row row hr1).get _
   ·exact k q H3 (s2.trans (s3.trans s4)) (s2.free (s3.free hq3)) hq4
def zeT(s r:Int×Int):Int×Int:=(s.1,s.2*rsv r.1)
inductive zzV(K:Fg)(A:Ad)(vs:List V)(H:Hp)(Q:VK)(E:XK):Prop|I:∀(rt:Addr) (m:Nat) (p r l:Addr) (as:List Addr) (sh:Sh) (lines:List Int) (a:Nat) (sl:Addr) (sts qas:List Addr) (st rs:List (Int×Int)),vs=[.ref p,.int (a:Int),.ref sl]->zae ⟨A.zR,A.zU,rt,m⟩ H p r l as sh lines->a<sh.2.length->H rt=some (.lst (qas.map V.ref))->zct H qas rs->SqL K H sl (sts.map V.ref)->zct H sts st->st.length=rs.length->(zD sh.2 a).length=rs.length+1->rs.length<=40->Sz 10000000 sh->(∀p,p∈st->0<p.2/\bI p.2<=50000/\bI p.1<=1000000)->(∀p,p∈rs->bI p.1<=10000)->m<=800->QtQ H (sumQ (((zD sh.2 a).zip ((1,1)::List.zipWith zeT st rs)).map (wRat sh.1))) Q->zzV K A vs H Q E
theorem zrs(B:Bs P base)(T:Txt K mg A):zH P w K mg base CX0 45 A.zim A.zhi ["self","a","steps"] (zzV K A):=by
 have zmq:=zpb (w:=w) B T
 have zdA:=(@zgB P w K mg base A T).up 44
 refine T.zlv.ok zfn (fun _ _ _ _ h=>?_) fun _ _ _ s H vs Q E hr h=>?_
 ·obtain⟨rt,m,p,r,l,as,sh,lines,a,sl,sts,qas,st,rs,rfl,_⟩:=h
  rfl
 ·obtain⟨rt,m,p,r,l,as,sh,lines,a,sl,sts,qas,st,rs,rfl,S,ha,hrt,hqs,hsl,hst,hlen,hrl,h5,hsz,hs1,hr1,hm,k⟩:=h
  refine zQa (qD 3 zfn.nd (zL (za (zmZ (za zi (za zi zc))) zc))) (zQc (zde PassesOwn.never rfl (zm4 rfl T.zn1 (za (pv 2) (za (zg (pv 0) rfl) zc))) (zhI (n:=2) rfl (zbP (zag (i:=4) zfn.nd rfl (Or.inl rfl)) (zbP (zag (i:=5) zfn.nd rfl (Or.inl rfl)) zga))) (zh (zay (zeh PySem.F.plainAttrs_list PySem.F.slot_list_append PySem.F.type_list_append zdt (pv 3) (za (zmZ (za (zu z6 (pv 4) zi (fun _ _=>rfl)) (za (zW za2 (zu z6 (pv 4) zi (fun _ _=>rfl)) (zw zdA hr rfl T.zgR T.zes.kp T.zh7 .nil zj (za (pv 5) zc))) zc))) zc))))) (zQl (zh (zo (zw zmq hr rfl T.zpf T.zhG.kp T.zqX .nil zj (za (zg (pv 0) rfl) (za (zu zA (zg (pv 0) rfl) (pv 1) (fun _ _=>rfl)) (za (pv 3) zc)))))) ?_));intros
  obtain⟨dx,c,hp,hc⟩:=S.ins
  obtain⟨dc,dd,fs,hsc,_,_⟩:=id hc
  obtain⟨ra,hra,hrow⟩:=S.readN ha
  have slen:=hst.length
  have qlen:=hqs.length
  have b5:=hsz.sc
  refine⟨szl2,fun t0 ht0=>?_⟩
  refine⟨zbC,fun wl hwl=>?_⟩
  have s1:zq H (upd H t0 (.tup [.int 1,.int 1])):=zl ht0
  have s2:zq H (upd (upd H t0 (.tup [.int 1,.int 1])) wl (.lst [.ref t0])):=s1.trans (zl hwl)
  have hwlH:H wl=none:=s1.free hwl
  have hp0:zct (upd (upd H t0 (.tup [.int 1,.int 1])) wl (.lst [.ref t0])) [t0] [(1,1)]:=.cons (by rw[zf (zk (show upd H t0 (.tup [.int 1,.int 1]) t0=some _ from zd) hwl),zd]) .nil
  have hw0:upd (upd H t0 (.tup [.int 1,.int 1])) wl (.lst [.ref t0]) wl=some (.lst ([t0].map V.ref)):=zd
  generalize upd (upd H t0 (.tup [.int 1,.int 1])) wl (.lst [.ref t0])=H0 at s2 hp0 hw0⊢
  refine⟨_,rfl,_,rfl,p,_,dx,_,_,rfl,s2 _ _ hp,T.zz,T.zbU,zcV _ _ _ _,sl,rt,_,_,rfl,s2.seq hsl,SqL.of (s2 _ _ hrt),?_⟩
  refine zwK (K:=K) (a:=sl) (b:=rt) (xs:=sts.map V.ref) (ys:=qas.map V.ref) (by rw[lmm,lmm];omega) (fun i σ H'=>∃(v4 v5:Option V) (was:List Addr),σ = [some (.ref p),some (.int (a:Int)),some (.ref sl),some (.ref wl),v4,v5]/\zq H H'/\H' wl=some (.lst (was.map V.ref))/\zct H' was ((1,1)::(List.zipWith zeT st rs).take i))
   ⟨none,none,[t0],rfl,s2,hw0,hp0⟩ (fun i σ H' _ ⟨_,_,_,_,s,_⟩=>⟨s.seq hsl,SqL.of (s _ _ hrt)⟩) ?_ ?_
  ·rintro i x y T' σ H' hx hy hT ⟨v4,v5,was,rfl,s3,hw3,hp3⟩
   obtain⟨u,hu,rfl⟩:=ze0 hx
   obtain⟨z,hz,rfl⟩:=ze0 hy
   obtain⟨q,hq1,hq2⟩:=(hst.same s3).get hu
   obtain⟨e,he1,he2⟩:=(hqs.same s3).get hz
   have hi:i<st.length:=(List.getElem?_eq_some_iff.mp hq1).1
   obtain⟨g1,g2,g3⟩:=hs1 q (mge hq1)
   have g4:=hr1 e (mge he1)
   have b6:=zfK e.1
   have hzi:(List.zipWith zeT st rs)[i]? = some (zeT q e):=by
    rw[List.getElem?_zipWith,hq1,he1]
   have t1:zq H' (upd H' T' (.tup [.ref u,.ref z])):=zl hT
   have plen:=hp3.length
   rw[List.length_cons,List.length_take]at plen
   refine⟨T',_,rfl,SqT.of zd,rfl,_,_,rfl,_,_,rfl,rfl,?_⟩
   refine⟨_,rfl,.inl ⟨rfl,_,SqL.of (t1 _ _ hw3)⟩,_,rfl,u,_,_,_,rfl,rfl,SqT.of (t1 _ _ hq2),rfl,_,rfl,u,_,_,_,rfl,rfl,SqT.of (t1 _ _ hq2),rfl,_,rfl,z,e.1,e.2,rfl,SqT.of (t1 _ _ he2),_,_,rfl,rfl,zcU (by omega) (by omega),szl2,fun tn htn=>?_⟩
   have t2:zq (upd H' T' (.tup [.ref u,.ref z])) (upd (upd H' T' (.tup [.ref u,.ref z])) tn (.tup [.int q.1,.int (q.2*rsv e.1)])):=zl htn
   have hw4:=t2 _ _ (t1 _ _ hw3)
   have hp4:zct (upd (upd H' T' (.tup [.ref u,.ref z])) tn (.tup [.int q.1,.int (q.2*rsv e.1)])) (was++[tn]) ((1,1)::(List.zipWith zeT st rs).take (i+1)):=by
    rw[Pr.zab hzi,<-List.cons_append]
    exact zct.snoc (q:=zeT q e) (show upd _ tn _ tn=_ from zd) ((hp3.same t1).same t2)
   refine⟨wl,_,_,rfl,rfl,hw4,(by rw[lmm];exact zbe (by omega)),?_⟩
   refine⟨_,_,was++[tn],rfl,fun b o hb=>?_,?_,?_⟩
   ·rw[zf (zk hb hwlH)]
    exact t2 _ _ (t1 _ _ (s3 _ _ hb))
   ·rw[zd,lMa]
    rfl
   ·exact hp4.upd_lst hw4
  ·rintro σ H' ⟨v4,v5,was,rfl,s3,hw3,hp3⟩
   rw[tOl (by rw[List.length_zipWith,lmm];omega)]at hp3
   refine⟨_,rfl,p,_,dx,_,_,rfl,s3 _ _ hp,T.zz,T.zbi,zbI _ _ _ _,_,rfl,p,_,dx,_,_,rfl,s3 _ _ hp,T.zz,T.z7,zap _ _ _ _,_,rfl,r,_,_,_,rfl,rfl,SqL.of (s3 _ _ S.rows),hra,_,rfl,
    c,ra,wl,sh.1,m,zD sh.2 a,was,_,rfl,hc.same s3,SqL.of (s3 _ _ hrow),SqL.of hw3,hp3,?_,?_,(hsz.rowAt a),fun q hq=>?_,by omega,by omega,fun q H3 s4 hq3 hq4=>?_⟩
   ·rw[List.length_cons,List.length_zipWith,hrl]
    omega
   ·rw[List.length_cons,List.length_zipWith]
    omega
   ·rcases List.mem_cons.mp hq with e|hq
    ·subst e
     exact⟨by decide,by decide,by decide⟩
    ·obtain⟨i,hi⟩:=List.getElem?_of_mem hq
     rw[List.getElem?_zipWith]at hi
     cases e1:st[i]? with
     | none=>rw[e1]at hi;cases hi
     | some u=>
      cases e2:rs[i]? with
      | none=>rw[e1,e2]at hi;cases hi
      | some v=>
       rw[e1,e2]at hi
       have e3:zeT u v=q:=oSi hi
       subst e3
       obtain⟨g1,g2,g3⟩:=hs1 u (mge e1)
       have g4:=hr1 v (mge e2)
       have b6:=zfK v.1
       have b7:=zbc u.2 (rsv v.1)
       exact⟨Int.mul_pos g1 (ziY _),by show bI (u.2*rsv v.1)<=_;omega,g3⟩
   ·exact k q H3 (s3.trans s4) (s3.free hq3) hq4
theorem zvU{head:List Int}{l:List Rat}{i:Nat}{q:Rat}(h:l[i]? = some q)(g:1500<Sp.wt q):Sp.za4 head l=[-6]:=by
 unfold Sp.za4
 rw[if_pos (List.any_eq_true.mpr ⟨q,mge h,decide_eq_true g⟩)]
theorem zvV{head:List Int}{l:List Rat}(h :∀q,q∈l->¬1500<Sp.wt q):Sp.za4 head l=head++l.flatMap fun q=>[q.num,(q.den:Int)]:=by
 unfold Sp.za4
 rw[if_neg (fun z=>by
  obtain⟨q,hq,e⟩:=List.any_eq_true.mp z
  exact h q hq (oDt e))]
def frac2(q:Rat):List Int:=[q.num,(q.den:Int)]
theorem zsL(l:List Rat):(l.flatMap frac2).length=2*l.length:=by
 induction l with
 | nil=>rfl
 | cons q l ih=>rw[List.flatMap_cons,lEa,ih,List.length_cons];show 2+_=_;omega
def IntsQ(H:Hp)(ns:List Int)(Q:VK):Prop:=∀(H':Hp) (l:Addr),zq H H'->H l=none->H' l=some (.lst (ns.map V.int))->Q (.ref l) H'
inductive zA4(vs:List V)(H:Hp)(Q:VK)(E:XK):Prop|I:∀(h l:Addr) (head:List Int) (as:List Addr) (qs:List Rat),vs=[.ref h,.ref l]->H h=some (.lst (head.map V.int))->H l=some (.lst (as.map V.ref))->zam H as qs->head.length<=100->qs.length<=100->IntsQ H (Sp.za4 head qs) Q->zA4 vs H Q E
theorem zeI(T:Txt K mg A):zH P w K mg base CX0 42 A.zuX A.zrJ ["head","ratios"] zA4:=by
 have zhv:=@znv P w K mg base A T
 refine T.zdc.ok zrk (fun _ _ _ _ h=>?_) fun _ _ _ s H vs Q E hr h=>?_
 ·obtain⟨h,l,head,as,qs,rfl,_⟩:=h
  rfl
 obtain⟨h,l,head,as,qs,rfl,hh,hl,PA,hz1,hz2,k⟩:=h
 refine zQa (qD 2 zrk.nd (zgb zeW (by rfl) T.zlA boot_list (za (pv 0) zc))) (zQc (zde PassesOwn.never rfl (zdP (pv 1)) (zag (i:=3) zrk.nd rfl (Or.inl rfl)) (ze (zY (z5 zlI (zw zhv hr rfl T.zkb T.zgm.kp T.zmp .nil zj (za (pv 3) zc)) (zas rfl T.zmR) (nomark _)) (zh (zo (zL (za (zas rfl T.zjV) zc)))) zJ)
  (zh (zay (zeh PySem.F.plainAttrs_list PySem.F.slot_list_extend PySem.F.type_list_extend zfh (pv 2) (za (pv 3) zc)))))) (zQl (zh (zo (pv 2))) ?_));intros
 have hln:=PA.length
 refine⟨_,rfl,h,_,rfl,.inl (SqL.of hh),fun a ha=>?_⟩
 have s1:zq H (upd H a (.lst (head.map V.int))):=zl ha
 refine⟨_,rfl,l,rfl,⟨_,SqL.of (s1 _ _ hl)⟩,zpn (K:=K) (a:=l) (xs:=as.map V.ref) (fun i σ H'=>zq H H'/\∃(v3:Option V),σ = [some (.ref h),some (.ref l),some (.ref a),v3]/\H' a=some (.lst ((head++(qs.take i).flatMap frac2).map V.int))/\∀q,q∈qs.take i->¬1500<Sp.wt q)
  ⟨s1,none,rfl,by rw[zd];simp,fun q hq=>by simp at hq⟩ (fun i σ H' _ ⟨s2,_⟩=>SqL.of (s2 _ _ hl)) ?_ ?_⟩
 ·rintro i y σ H' hi ⟨s2,v3,rfl,ha2,lt⟩
  obtain⟨z,hz,rfl⟩:=ze0 hi
  obtain⟨q0,hv,hp2⟩:=(PA.same s2).get hz
  have hi2:i<qs.length:=(List.getElem?_eq_some_iff.mp hv).1
  refine⟨_,rfl,z,_,_,rfl,SqT.of hp2,_,_,rfl,rfl,_,rfl,?_⟩
  refine zaZ (fun e=>?_) (fun e=>?_)
  ·have e1:1500<Sp.wt q0:=by
    have:=oDt e
    rw[zeS]
    omega
   rw[zvU hv e1]at k
   refine⟨zbC,fun r hr2=>?_⟩
   exact k _ r (s2.trans (zl hr2)) (s2.free hr2) zd
  ·have e1:¬1500<Sp.wt q0:=fun z=>e (decide_eq_true (by
    rw[zeS]at z
    omega))
   refine⟨_,rfl,.inl ⟨rfl,_,SqL.of ha2⟩,_,rfl,a,z,_,_,rfl,rfl,ha2,.inr hp2,?_,?_⟩
   ·rw[lmm,lEa,zsL,List.length_take]
    show _+2<=sizeLine
    rw[sizeLine_eq]
    omega
   ·refine⟨fun c o hc=>by rw[zf (zk hc ha)];exact s2 _ _ hc,_,rfl,?_,?_⟩
    ·rw[zd,Pr.zab hv,List.flatMap_append,<-lAa,List.map_append (l₂:=[q0].flatMap frac2)]
     rfl
    ·rw[Pr.zab hv]
     intro q hq
     rcases List.mem_append.mp hq with hq|hq
     ·exact lt q hq
     ·cases List.mem_singleton.mp hq
      exact e1
 ·rintro σ H' ⟨s2,v3,rfl,ha2,lt⟩
  rw[tOl (by rw[lmm];omega)]at ha2 lt
  refine⟨_,rfl,?_⟩
  rw[zvV lt]at k
  exact k H' a s2 ha ha2
def zaf(l:Addr)(p:Int):List (Str×V):=zK "place" (.int p) (zK "numbers" (.ref l) [])
theorem zgE(l:Addr)(p:Int):(zaf l p).lookup ("numbers" : Str)=some (V.ref l):=by unfold zaf;simp only[zy];rfl
theorem zb1(l:Addr)(p:Int):(zaf l p).lookup ("place" : Str)=some (V.int p):=by unfold zaf;simp only[zy];rfl
theorem zpc(l:Addr)(p q:Int):zK "place" (.int q) (zaf l p)=zaf l q:=rfl
theorem SqL.but{H H':Hp}{x l:Addr}{C d:Addr}{fs:List (Str×V)}{xs:List V}(h:SqL K H l xs)(hx:H x=some (.ins C d fs))(kp :∀b o,H b=some o->b≠x->H' b=some o):SqL K H' l xs:=by
 rcases h with(h|⟨o,h⟩)|h
 ·exact .inl (.inl (kp _ _ h (zI h hx (by intro z;cases z))))
 ·exact .inl (.inr ⟨o,kp _ _ h (zI h hx (by intro z;cases z))⟩)
 ·exact .inr h
inductive zrt(C:Addr)(vs:List V)(H:Hp)(Q:VK)(E:XK):Prop|I:∀(x dx l:Addr),vs=[.ref x,.ref l]->H x=some (.ins C dx [])->Q .non (upd H x (.ins C dx (zaf l 0)))->zrt C vs H Q E
theorem zru(T:Txt K mg A):zH P w K mg base CX0 41 A.ziw A.zhr ["self","numbers"] (zrt A.zaa):=by
 refine T.zly.ok zrl (fun _ _ _ _ h=>?_) fun _ _ _ s H vs Q E hr h=>?_
 ·obtain⟨x,dx,l,rfl,_⟩:=h
  rfl
 obtain⟨x,dx,l,rfl,hx,k⟩:=h
 refine zQa (zaX (pv 0) (pv 1) rfl) (zQl (zh (zaX (pv 0) zi rfl)) ?_);intros
 refine⟨_,rfl,_,rfl,x,_,dx,_,rfl,hx,T.zbp,T.zdN,(by show 0<1000;decide),?_⟩
 refine⟨_,rfl,x,_,dx,_,rfl,zd,T.zbp,T.zco,(by show 1<1000;decide),?_⟩
 rw[zaS]
 exact k
inductive zoz(K:Fg)(C:Addr)(vs:List V)(H:Hp)(Q:VK)(E:XK):Prop|I:∀(x dx l:Addr) (p:Int) (xs:List V),vs=[.ref x]->H x=some (.ins C dx (zaf l p))->SqL K H l xs->Q (.bl (decide ((xs.length:Int)<=p))) H->zoz K C vs H Q E
theorem zoA(T:Txt K mg A):zH P w K mg base CX0 41 A.zf7 A.zfC ["self"] (zoz K A.zaa):=by
 refine T.ziO.ok zou (fun _ _ _ _ h=>?_) fun _ _ _ s H vs Q E hr h=>?_
 ·obtain⟨x,dx,l,p,xs,rfl,_⟩:=h
  rfl
 obtain⟨x,dx,l,p,xs,rfl,hx,hl,k⟩:=h
 refine⟨_,(zh (zo (zq2 zAf (zg (pv 0) rfl) (zaN zaC (by rfl) T.zcw PySem.boot_len (za (zg (pv 0) rfl) zc)) (nomark _)))),?_⟩
 refine⟨_,rfl,x,_,dx,_,_,rfl,hx,T.zbp,T.zco,zb1 _ _,_,rfl,x,_,dx,_,_,rfl,hx,T.zbp,T.zdN,zgE _ _,l,_,rfl,.inl hl,_,_,rfl,rfl,?_⟩
 exact k
inductive zrv(K:Fg)(C:Addr)(vs:List V)(H:Hp)(Q:VK)(E:XK):Prop|I:∀(x dx l:Addr) (p:Nat) (xs:List V) (v:V),vs=[.ref x]->H x=some (.ins C dx (zaf l (p:Int)))->SqL K H l xs->xs[p]? = some v->Q v (upd H x (.ins C dx (zaf l ((p+1:Nat):Int))))->zrv K C vs H Q E
theorem zlj(T:Txt K mg A):zH P w K mg base CX0 41 A.zix A.zhs ["self"] (zrv K A.zaa):=by
 refine T.zlz.ok zle (fun _ _ _ _ h=>?_) fun _ _ _ s H vs Q E hr h=>?_
 ·obtain⟨x,dx,l,p,xs,v,rfl,_⟩:=h
  rfl
 obtain⟨x,dx,l,p,xs,v,rfl,hx,hl,hv,k⟩:=h
 refine zQa (qD 1 zle.nd (zu zA (zg (pv 0) rfl) (zg (pv 0) rfl) (fun _ _=>rfl))) (zQc (zmY (pv 0) zi ztI) (zQl (zh (zo (pv 1))) ?_));intros
 refine⟨_,rfl,x,_,dx,_,_,rfl,hx,T.zbp,T.zdN,zgE _ _,_,rfl,x,_,dx,_,_,rfl,hx,T.zbp,T.zco,zb1 _ _,l,_,_,_,rfl,rfl,hl,zb8 hv,?_⟩
 refine⟨_,rfl,x,_,dx,_,_,rfl,hx,T.zbp,T.zco,zb1 _ _,_,_,rfl,rfl,dx,_,hx,(by show 2<1000;decide),?_⟩
 refine⟨_,rfl,?_⟩
 rw[zpc]
 exact k
inductive zmT(K:Fg)(C:Addr)(vs:List V)(H:Hp)(Q:VK)(E:XK):Prop|I:∀(x dx l:Addr) (p n:Nat) (xs:List V),vs=[.ref x,.int (n:Int)]->H x=some (.ins C dx (zaf l (p:Int)))->SqL K H l xs->p+n<=xs.length->(∀r,H r=none->Q (.ref r) (upd (upd H r (.lst ((xs.drop p).take n))) x (.ins C dx (zaf l ((p+n:Nat):Int)))))->zmT K C vs H Q E
theorem zg1(T:Txt K mg A):zH P w K mg base CX0 41 A.ze9 A.zeL ["self","count"] (zmT K A.zaa):=by
 refine T.zg3.ok zgZ (fun _ _ _ _ h=>?_) fun _ _ _ s H vs Q E hr h=>?_
 ·obtain⟨x,dx,l,p,n,xs,rfl,_⟩:=h
  rfl
 obtain⟨x,dx,l,p,n,xs,rfl,hx,hl,hn,k⟩:=h
 refine zQa (qD 2 zgZ.nd (zzk zAr (zg (pv 0) rfl) (zwB (zg (pv 0) rfl)) (zwB (zW zb7 (zg (pv 0) rfl) (pv 1))))) (zQc (zmY (pv 0) (pv 1) ztI) (zQl (zh (zo (pv 2))) ?_));intros
 refine⟨_,rfl,x,_,dx,_,_,rfl,hx,T.zbp,T.zdN,zgE _ _,_,rfl,x,_,dx,_,_,rfl,hx,T.zbp,T.zco,zb1 _ _,_,rfl,_,rfl,x,_,dx,_,_,rfl,hx,T.zbp,T.zco,zb1 _ _,_,rfl,_,_,rfl,rfl,_,rfl,l,_,rfl,hl,fun r hr2=>?_⟩
 have nx:x≠r:=zk hx hr2
 have hx2:upd H r (.lst ((xs.drop p).take n)) x=some (.ins A.zaa dx (zaf l (p:Int))):=by rw[zf nx];exact hx
 have e:cutV xs (some (p:Int)) (some ((p:Int)+(n:Int)))=(xs.drop p).take n:=by
  unfold cutV
  have e1:HT.sIx xs.length 0 (some (p:Int))=p:=by rw[HT.zwA];omega
  have e2:HT.sIx xs.length xs.length (some ((p:Int)+(n:Int)))=p+n:=by rw[<-Int.natCast_add,HT.zwA];omega
  rw[e1,e2,Nat.add_sub_cancel_left]
 rw[e]
 refine⟨_,rfl,x,_,dx,_,_,rfl,hx2,T.zbp,T.zco,zb1 _ _,_,rfl,_,_,rfl,rfl,dx,_,hx2,(by show 2<1000;decide),?_⟩
 refine⟨_,rfl,?_⟩
 rw[zpc,<-Int.natCast_add]
 exact k r hr2
open Sp (zad)
theorem zzW{ns:List Int}{p:Nat}{rows:List (List Int)}{rest:List Int}(h:ns.drop p=rows.flatMap zad++rest){i:Nat}{row:List Int}(hi:rows[i]? = some row){q:Nat}(hq:q=p+((rows.take i).flatMap zad).length) :
  ns[q]? = some (row.length:Int)/\(ns.drop (q+1)).take row.length=row/\q+1+row.length<=ns.length/\p+((rows.take (i+1)).flatMap zad).length=q+1+row.length:=by
 have hlt:i<rows.length:=(List.getElem?_eq_some_iff.mp hi).1
 have e:rows=rows.take i++row::rows.drop (i+1):=by
  have h1:rows.drop i=row::rows.drop (i+1):=by
   rw[List.drop_eq_getElem_cons hlt]
   congr 1
   exact(List.getElem?_eq_some_iff.mp hi).2
  rw[<-h1,List.take_append_drop]
 have e2:ns.drop q=zad row++((rows.drop (i+1)).flatMap zad++rest):=by
  rw[hq,<-List.drop_drop,h]
  have e0:rows.flatMap zad=(rows.take i++row::rows.drop (i+1)).flatMap zad:=congrArg (List.flatMap zad) e
  rw[e0,List.flatMap_append,List.flatMap_cons,lAa,List.drop_left,lAa]
 have e3:zad row=(row.length:Int)::row:=rfl
 rw[e3,List.cons_append]at e2
 have h0:ns[q]? = some (row.length:Int):=by
  have:(ns.drop q)[0]? = some (row.length:Int):=by rw[e2];rfl
  rwa[List.getElem?_drop,Nat.add_zero]at this
 have e4:ns.drop (q+1)=row++((rows.drop (i+1)).flatMap zad++rest):=by
  rw[<-List.drop_drop,e2]
  rfl
 refine⟨h0,by rw[e4,List.take_left],?_,?_⟩
 ·have:=congrArg List.length e4
  rw[List.length_drop,lEa]at this
  have hl:q<ns.length:=(List.getElem?_eq_some_iff.mp h0).1
  omega
 ·rw[Pr.zab hi,List.flatMap_append,lEa,hq]
  show _=_+1+row.length
  rw[List.flatMap_cons,List.flatMap_nil,List.append_nil,e3,List.length_cons]
  omega
def zbq(H:Hp)(as:List Addr)(rows:List (List Int)):Prop:=Paired (fun a row=>H a=some (.lst (row.map V.int))) as rows
theorem zbq.kept{H H':Hp} :∀{as:List Addr} {rows:List (List Int)},zbq H as rows->(∀a xs,a∈as->H a=some (.lst xs)->H' a=some (.lst xs))->zbq H' as rows
 | _,_,.nil,_=>.nil
 | _,_,.cons h t,s=>.cons (s _ _ (lMs ..) h) (zbq.kept t fun a xs ha=>s a xs (lMc _ ha))
theorem zbq.snoc{H:Hp}{a:Addr}{row:List Int}(h:H a=some (.lst (row.map V.int))) :∀{as:List Addr} {rows:List (List Int)},zbq H as rows->zbq H (as++[a]) (rows++[row])
 | _,_,.nil=>.cons h .nil
 | _,_,.cons g t=>.cons g (zbq.snoc h t)
theorem zbq.length{H:Hp} :∀{as:List Addr} {rows:List (List Int)},zbq H as rows->as.length=rows.length
 | _,_,.nil=>rfl
 | _,_,.cons _ t=>by rw[List.length_cons,List.length_cons,zbq.length t]
inductive zmU(K:Fg)(C:Addr)(vs:List V)(H:Hp)(Q:VK)(E:XK):Prop|I:∀(x dx l:Addr) (p:Nat) (ns:List Int) (rows:List (List Int)) (rest:List Int),vs=[.ref x,.int (rows.length:Int)]->H x=some (.ins C dx (zaf l (p:Int)))->SqL K H l (ns.map V.int)->ns.drop p=rows.flatMap zad++rest->rows.length<=10->(∀(H':Hp) (r:Addr) (as:List Addr),(∀b o,H b=some o->b≠x->H' b=some o)->H' x=some (.ins C dx (zaf l ((p+(rows.flatMap zad).length:Nat):Int)))->H r=none->H' r=some (.lst (as.map V.ref))->zbq H' as rows->(∀a,a∈as->H a=none)->Q (.ref r) H')->zmU K C vs H Q E
theorem zmV(T:Txt K mg A):zH P w K mg base CX0 42 A.zfa A.zeM ["self","count"] (zmU K A.zaa):=by
 have ziF:=@zlj P w K mg base A T
 have zfg:=@zg1 P w K mg base A T
 refine T.zg4.ok zg0 (fun _ _ _ _ h=>?_) fun _ _ _ s H vs Q E hr h=>?_
 ·obtain⟨x,dx,l,p,ns,rows,rest,rfl,_⟩:=h
  rfl
 obtain⟨x,dx,l,p,ns,rows,rest,rfl,hx,hl,hrow,hfew,k⟩:=h
 refine zQa (qD 2 zg0.nd (zL zc)) (zQc (zlG PassesOwn.never (z5 zgq (zaN zaC (by rfl) T.zcw PySem.boot_len (za (pv 2) zc)) (pv 1) (nomark _)) (zh (zay (zeh PySem.F.plainAttrs_list PySem.F.slot_list_append PySem.F.type_list_append zdt (pv 2) (za (zp (pv 0) T.zbp T.zg2 zfg hr T.zh8 .nil zj (za (zi4 (pv 0) T.zbp T.zlr ziF hr T.zmS .nil zj) zc)) zc))))) (zQl (zh (zo (pv 2))) ?_));intros
 refine⟨Nat.zero_le _,fun r hr0=>?_⟩
 have nxr:x≠r:=zk hx hr0
 refine⟨fun m σ H'=>σ = [some (.ref x),some (.int (rows.length:Int)),some (.ref r)]/\∃(i:Nat) (as:List Addr),m=rows.length-i/\i<=rows.length/\(∀b o,H b=some o->b≠x->H' b=some o)/\H' x=some (.ins A.zaa dx (zaf l ((p+((rows.take i).flatMap zad).length:Nat):Int)))/\H' r=some (.lst (as.map V.ref))/\zbq H' as (rows.take i)/\(∀a,a∈as->H a=none/\a≠r),
  ⟨rows.length,rfl,0,[],rfl,Nat.zero_le _,fun b o hb _=>by rw[zf (zk hb hr0)];exact hb,by rw[zf nxr];exact hx,zd,.nil,fun a ha=>by cases ha⟩,?_⟩
 rintro m σ H1 ⟨rfl,i,as,rfl,hi,kp,hx1,hr1,L,fr⟩
 have hlen:=L.length
 rw[List.length_take]at hlen
 refine⟨_,rfl,r,_,rfl,.inl (SqL.of hr1),_,rfl,_,_,rfl,rfl,_,rfl,?_⟩
 rw[lmm]
 refine zaZ (fun e=>?_) (fun e=>?_)
 ·have hlt:i<rows.length:=by
   have:=oDt e
   omega
  obtain⟨row,hrw⟩ :∃row,rows[i]? = some row:=⟨_,gge hlt⟩
  obtain⟨d1,d2,d3,d4⟩:=zzW hrow hrw rfl
  refine⟨fun σ1 H2=>∃m':Nat,m'<rows.length-i/\(σ1=[some (.ref x),some (.int (rows.length:Int)),some (.ref r)]/\∃(i:Nat) (as:List Addr),m'=rows.length-i/\i<=rows.length/\(∀b o,H b=some o->b≠x->H2 b=some o)/\H2 x=some (.ins A.zaa dx (zaf l ((p+((rows.take i).flatMap zad).length:Nat):Int)))/\H2 r=some (.lst (as.map V.ref))/\zbq H2 as (rows.take i)/\(∀a,a∈as->H a=none/\a≠r)),fun σ1 H2 q=>q,?_⟩
  have hl1:SqL K H1 l (ns.map V.int):=SqL.but hl hx kp
  refine⟨_,rfl,.inl ⟨rfl,_,SqL.of hr1⟩,_,rfl,x,dx,_,rfl,hx1,rfl,_,rfl,x,dx,_,rfl,hx1,rfl,x,dx,l,_,_,_,rfl,hx1,hl1,(by rw[gEm,d1];rfl),?_⟩
  have kp2 :∀b o,H1 b=some o->b≠x->upd H1 x (.ins A.zaa dx (zaf l ((p+((rows.take i).flatMap zad).length+1:Nat):Int))) b=some o:=fun b o hb hn=>by rw[zf hn];exact hb
  refine⟨x,dx,l,_,row.length,_,rfl,zd,SqL.but hl1 hx1 kp2,(by rw[lmm];exact d3),fun z hz=>?_⟩
  have nzx:z≠x:=fun c=>by rw[c,zd]at hz;cases hz
  have hz1:H1 z=none:=by rw[zf nzx]at hz;exact hz
  have hz0:H z=none:=by
   cases c:H z with
   | none=>rfl
   | some o=>rw[kp z o c nzx]at hz1;cases hz1
  have nxr1:r≠x:=fun c=>nxr c.symm
  rw[<-List.map_drop,<-List.map_take,d2]
  have hr2:upd (upd (upd H1 x (.ins A.zaa dx (zaf l ((p+((rows.take i).flatMap zad).length+1:Nat):Int)))) z (.lst (row.map V.int))) x (.ins A.zaa dx (zaf l ((p+((rows.take i).flatMap zad).length+1+row.length:Nat):Int))) r=some (.lst (as.map V.ref)):=by
   rw[zf nxr1,zf (zk hr1 hz1),zf nxr1];exact hr1
  refine⟨r,_,_,rfl,rfl,hr2,(by rw[lmm];exact zbe (by omega)),?_⟩
  refine⟨rows.length-(i+1),by omega,rfl,i+1,as++[z],rfl,hlt,fun b o hb hn=>?_,?_,?_,?_,?_⟩
  ·rw[zf (zk hb hr0),zf hn,zf (zk hb hz0),zf hn]
   exact kp b o hb hn
  ·rw[zf nxr,zd,d4]
  ·rw[zd,lMa];rfl
  ·rw[Pr.zab hrw]
   have nzr:z≠r:=fun c=>by rw[c,hr1]at hz1;cases hz1
   refine zbq.snoc (by rw[zf nzr,zf nzx,zd]) (L.kept fun a xs ha ha1=>?_)
   have nax:a≠x:=zI ha1 hx1 (by intro c;cases c)
   rw[zf (fr a ha).2,zf nax,zf (zk ha1 hz1),zf nax]
   exact ha1
  ·intro a ha
   rcases List.mem_append.mp ha with ha|ha
   ·exact fr a ha
   ·cases List.mem_singleton.mp ha
    exact⟨hz0,fun c=>by rw[c,hr1]at hz1;cases hz1⟩
 ·have hge:i=rows.length:=by
   have h2:¬((as.length:Int)<(rows.length:Int)):=fun z=>e (decide_eq_true z)
   omega
  subst hge
  rw[List.take_length]at hx1 L
  refine⟨_,rfl,?_⟩
  exact k H1 r as kp hx1 hr0 hr1 L fun a ha=>(fr a ha).1
def zcu(pa:Addr)(cv:V):List (Str×V):=zK "course" cv (zK "held" (.ref pa) [])
theorem zaB(pa:Addr)(cv:V):(zcu pa cv).lookup ("held" : Str)=some (V.ref pa):=by unfold zcu;simp only[zy];rfl
theorem zaD(pa:Addr)(cv:V):(zcu pa cv).lookup ("course" : Str)=some cv:=by unfold zcu;simp only[zy];rfl
theorem zxD(pa:Addr)(cv c2:V):zK "course" c2 (zcu pa cv)=zcu pa c2:=rfl
theorem za6(pa:Addr)(cv:V){m:Str}(h1:¬m = "course":=by decide) (h2:¬m = "held":=by decide):(zcu pa cv).lookup m=none:=by
 unfold zcu
 rw[zy,if_neg h1,zy,if_neg h2]
 rfl
structure CvAt(A:Ad)(H:Hp)(c r rs ss ff:Addr)(qs:List zav)(ps:List Rat)(N:Nat)(sa:List Addr)(fl:List Int)(m:Sp.M):Prop where
 vals:m.vals=some ps
 at_:zan A H c r rs ss ff qs ps m.plan (N+1) sa fl
 v15:zfM N ps
 few:sa.length<=21
structure BookP(A:Ad)(H:Hp)(bk d pa b r:Addr)(cv:V)(n N:Nat)(bs:List Int)(qs:List zav)(ras:List Addr)(m:Sp.M):Prop where
 ins:H bk=some (.ins A.zax d (zcu pa cv))
 plan:zd4 A.zbY H pa n N b r
 begs:H b=some (.lst (bs.map V.int))
 ruls:H r=some (.lst (ras.map V.ref))
 rule:zT A.zaH H ras qs
 is:ze2 n N bs qs m.plan
def zaE(A:Ad)(H:Hp)(bk:Addr)(m:Sp.M):Prop:=E5 fun(d pa b r:Addr)(cv:V)=>E5 fun(n N:Nat)(bs:List Int)(qs:List zav)(ras:List Addr)=>BookP A H bk d pa b r cv n N bs qs ras m/\
 ((m.vals=none/\cv=.non)\/E7 fun(c rs ss ff:Addr)(ps:List Rat)(sa:List Addr)(fl:List Int)=>cv=.ref c/\CvAt A H c r rs ss ff qs ps N sa fl m)
def zbT(A:Ad)(H:Hp)(bk:Addr)(m:Sp.M)(ps:List Rat)(t:Nat):Prop:=E8 fun(d pa b r c rs ss ff:Addr)=>E7 fun(n N:Nat)(bs:List Int)(qs:List zav)(ras sa:List Addr)(fl:List Int)=>BookP A H bk d pa b r (.ref c) n N bs qs ras m/\CvAt A H c r rs ss ff qs ps N sa fl m/\t<sa.length
theorem zbT.at_{H:Hp}{bk:Addr}{m:Sp.M}{ps:List Rat}{t:Nat}(h:zbT A H bk m ps t):zaE A H bk m:=by
 obtain⟨d,pa,b,r,c,rs,ss,ff,n,N,bs,qs,ras,sa,fl,B,C,_⟩:=h
 exact⟨d,pa,b,r,_,n,N,bs,qs,ras,B,.inr ⟨c,rs,ss,ff,ps,sa,fl,rfl,C⟩⟩
theorem zd4.same{C:Addr}{H H':Hp}{pa b r:Addr}{n N:Nat}(h:zd4 C H pa n N b r)(s:zq H H'):zd4 C H' pa n N b r:=by
 obtain⟨d,e⟩:=h
 exact⟨d,s _ _ e⟩
theorem CvAt.same{H H':Hp}{c r rs ss ff:Addr}{qs:List zav}{ps:List Rat}{N:Nat}{sa:List Addr}{fl:List Int}{m:Sp.M}(h:CvAt A H c r rs ss ff qs ps N sa fl m)(s:zq H H'):CvAt A H' c r rs ss ff qs ps N sa fl m:=
 ⟨h.vals,h.at_.same s,h.v15,h.few⟩
theorem BookP.same{H H':Hp}{bk d pa b r:Addr}{cv:V}{n N:Nat}{bs:List Int}{qs:List zav}{ras:List Addr}{m:Sp.M}(h:BookP A H bk d pa b r cv n N bs qs ras m)(s:zq H H'):BookP A H' bk d pa b r cv n N bs qs ras m:=
 ⟨s _ _ h.ins,h.plan.same s,s _ _ h.begs,s _ _ h.ruls,h.rule.same s,h.is⟩
theorem zaE.same{H H':Hp}{bk:Addr}{m:Sp.M}(h:zaE A H bk m)(s:zq H H'):zaE A H' bk m:=by
 obtain⟨d,pa,b,r,cv,n,N,bs,qs,ras,B,h⟩:=h
 refine⟨d,pa,b,r,cv,n,N,bs,qs,ras,B.same s,?_⟩
 rcases h with h|⟨c,rs,ss,ff,ps,sa,fl,e,C⟩
 ·exact .inl h
 ·exact .inr ⟨c,rs,ss,ff,ps,sa,fl,e,C.same s⟩
theorem zbT.same{H H':Hp}{bk:Addr}{m:Sp.M}{ps:List Rat}{t:Nat}(h:zbT A H bk m ps t)(s:zq H H'):zbT A H' bk m ps t:=by
 obtain⟨d,pa,b,r,c,rs,ss,ff,n,N,bs,qs,ras,sa,fl,B,C,ht⟩:=h
 exact⟨d,pa,b,r,c,rs,ss,ff,n,N,bs,qs,ras,sa,fl,B.same s,C.same s,ht⟩
def Kept(H:Hp)(o:HO):Prop:=(∃ns:List Int,o=.lst (ns.map V.int))\/(∃ob u,o=.frz ob u)\/(∃C d l p,o=.ins C d (zaf l p))\/(∃xs,o=.tup xs)\/∃as:List Addr,o=.lst (as.map V.ref)/\∀a,a∈as->∃xs,H a=some (.tup xs)
def zS(H H':Hp):Prop:=∀b o,H b=some o->Kept H o->H' b=some o
theorem zS.same{H H':Hp}(s:zq H H'):zS H H':=fun b o h _=>s b o h
theorem Kept.at_{H H':Hp}(k:zS H H'){o:HO}(h:Kept H o):Kept H' o:=by
 rcases h with h|h|h|h|⟨as,e,h⟩
 ·exact .inl h
 ·exact .inr (.inl h)
 ·exact .inr (.inr (.inl h))
 ·exact .inr (.inr (.inr (.inl h)))
 ·exact .inr (.inr (.inr (.inr ⟨as,e,fun a ha=>let⟨xs,hx⟩:=h a ha;⟨xs,k _ _ hx (.inr (.inr (.inr (.inl ⟨xs,Eq.refl _⟩))))⟩⟩)))
theorem zS.trans{H H1 H2:Hp}(a:zS H H1)(b:zS H1 H2):zS H H2:=fun c o h k=>b c o (a c o h k) (k.at_ a)
theorem zS.tup{H H':Hp}(k:zS H H'){a:Addr}{xs:List V}(h:H a=some (.tup xs)):H' a=some (.tup xs):=k _ _ h (.inr (.inr (.inr (.inl ⟨xs,Eq.refl _⟩))))
theorem zS.qs{H H':Hp}(k:zS H H') :∀{as:List Addr} {qs:List Rat},zam H as qs->zam H' as qs
 | _,_,.nil=>.nil
 | _,_,.cons h t=>.cons (k.tup h) (zS.qs k t)
theorem zam.tups{H:Hp}{as:List Addr}{qs:List Rat}(h:zam H as qs) :∀a,a∈as->∃xs,H a=some (.tup xs):=fun a ha=>by
 obtain⟨i,hi⟩:=List.getElem?_of_mem ha
 obtain⟨q,_,e⟩:=h.get hi
 exact⟨_,e⟩
theorem zS.qlist{H H':Hp}(k:zS H H'){l:Addr}{as:List Addr}{qs:List Rat}(h:H l=some (.lst (as.map V.ref)))(h2:zam H as qs):H' l=some (.lst (as.map V.ref)):=k _ _ h (.inr (.inr (.inr (.inr ⟨as,Eq.refl _,h2.tups⟩))))
theorem zj8(l:Addr)(p:Int){m:Str}(h1:¬m = "place") (h2:¬m = "numbers"):(zaf l p).lookup m=none:=by
 unfold zaf
 rw[zy,if_neg h1,zy,if_neg h2]
 rfl
theorem Kept.ne_course{H:Hp}{o:HO}(h:Kept H o){C d pr rs ss ff:Addr}:o≠.ins C d (zbN pr rs ss ff):=by
 rintro rfl
 rcases h with⟨ns,e⟩|⟨ob,u,e⟩|⟨C',d',l,p,e⟩|⟨xs,e⟩|⟨as,e,_⟩
 ·cases e
 ·cases e
 rotate_left
 ·cases e
 ·cases e
 ·have z:=congrArg (fun f=>List.lookup ("place" : Str) f) (HO.ins.inj e).2.2
  simp only[zb1]at z
  rw[zaz _ _ _ _]at z
  cases z
theorem Kept.ne_book{H:Hp}{o:HO}(h:Kept H o){C d pa:Addr}{cv:V}:o≠.ins C d (zcu pa cv):=by
 rintro rfl
 rcases h with⟨ns,e⟩|⟨ob,u,e⟩|⟨C',d',l,p,e⟩|⟨xs,e⟩|⟨as,e,_⟩
 ·cases e
 ·cases e
 rotate_left
 ·cases e
 ·cases e
 ·have z:=congrArg (fun f=>List.lookup ("place" : Str) f) (HO.ins.inj e).2.2
  simp only[zb1]at z
  rw[za6 _ _]at z
  cases z
theorem zsM{ns:List Int}{sa:List Addr}(h:0<sa.length):ns.map V.int≠sa.map V.ref:=by
 intro e
 cases sa with
 | nil=>exact absurd h (by decide)
 | cons a sa=>
  cases ns with
  | nil=>cases e
  | cons n ns=>cases (List.cons.inj e).1
theorem Kept.ne_refs{H:Hp}{o:HO}(h:Kept H o){sa:List Addr}(h0:0<sa.length)(h1 :∀a,a∈sa->∃C d fs,H a=some (.ins C d fs)):o≠.lst (sa.map V.ref):=by
 rintro rfl
 rcases h with⟨ns,e⟩|⟨ob,u,e⟩|⟨C',d',l,p,e⟩|⟨xs,e⟩|⟨as,e,ht⟩
 ·exact zsM h0 (HO.lst.inj e).symm
 ·cases e
 ·cases e
 ·cases e
 ·cases sa with
  | nil=>exact absurd h0 (by decide)
  | cons a sa=>
   cases as with
   | nil=>cases (HO.lst.inj e)
   | cons b as=>
    have e2:=(List.cons.inj (HO.lst.inj e)).1
    cases e2
    obtain⟨xs,hx⟩:=ht a lMs
    obtain⟨C,d,fs,hi⟩:=h1 a lMs
    rw[hx]at hi
    cases hi
theorem zan.sheetsIns{H:Hp}{c r rs ss ff:Addr}{qs:List zav}{ps:List Rat}{pl:Vagrao.Plan}{W:Nat}{sa:List Addr}{fl:List Int}(C:zan A H c r rs ss ff qs ps pl W sa fl) :∀a,a∈sa->∃C d fs,H a=some (.ins C d fs):=fun a ha=>by
 obtain⟨i,hi⟩:=List.getElem?_of_mem ha
 obtain⟨_,_,_,_,_,_,S,_⟩:=C.each i a hi
 obtain⟨d,c,h,_⟩:=S.ins
 exact⟨_,d,_,h⟩
theorem BookP.moved{H H':Hp}{bk d pa b r c rs ss ff f2:Addr}{n N:Nat}{bs:List Int}{qs:List zav}{ras:List Addr}{m:Sp.M}{ps:List Rat}{sa sa2:List Addr}{fl fl2:List Int}(h:BookP A H bk d pa b r (.ref c) n N bs qs ras m){W:Nat}(C:zan A H c r rs ss ff qs ps m.plan W sa fl)
  (kp :∀b o,H b=some o->b≠c->b≠ss->H' b=some o) :∃ras',BookP A H' bk d pa b r (.ref c) n N bs qs ras' m:=by
 obtain⟨dx,hc⟩:=C.ins
 obtain⟨⟨ras',e1,e2⟩,_⟩:=C.rest kp
 refine⟨ras',kp _ _ h.ins (zI h.ins hc ?_) (zI h.ins C.sheets (by intro z;cases z)),?_,kp _ _ h.begs (zI h.begs hc (by intro z;cases z)) (zI h.begs C.sheets (fun z=>zsM C.pos (HO.lst.inj z))),e1,e2,h.is⟩
 ·intro z
  have z3:=congrArg (fun f=>List.lookup ("held" : Str) f) (HO.ins.inj z).2.2
  simp only[zaB]at z3
  rw[zaz _ _ _ _]at z3
  cases z3
 ·obtain⟨dp,e⟩:=h.plan
  refine⟨dp,kp _ _ e (zI e hc ?_) (zI e C.sheets (by intro z;cases z))⟩
  intro z
  have z3:=congrArg (fun f=>List.lookup ("accounts" : Str) f) (HO.ins.inj z).2.2
  simp only[zby]at z3
  rw[zaz _ _ _ _]at z3
  cases z3
theorem zpd{H H':Hp}{c r rs ss ff:Addr}{qs:List zav}{ps:List Rat}{pl:Vagrao.Plan}{W:Nat}{sa:List Addr}{fl:List Int}(C:zan A H c r rs ss ff qs ps pl W sa fl)(kp :∀b o,H b=some o->b≠c->b≠ss->H' b=some o):zS H H':=by
 obtain⟨dx,hc⟩:=C.ins
 exact fun b o h k=>kp b o h (zI h hc k.ne_course) (zI h C.sheets (k.ne_refs C.pos C.sheetsIns))
inductive zxE(vs:List V)(H:Hp)(Q:VK)(E:XK):Prop|I:∀(t:Int),vs=[.int t]->Q (.bl (decide (0<=t/\t<=20))) H->zxE vs H Q E
theorem zb2(T:Txt K mg A):zH P w K mg base CX0 41 A.znK A.zma ["t"] zxE:=by
 refine T.zbF.ok zxw (fun _ _ _ _ h=>?_) fun _ _ _ s H vs Q E hr h=>?_
 ·obtain⟨t,rfl,_⟩:=h
  rfl
 obtain⟨t,rfl,k⟩:=h
 refine⟨_,(zh (zo (zf0 zds zds zi (pv 0) (zas rfl T.zrT)))),?_⟩
 refine⟨_,rfl,_,_,rfl,rfl,_,rfl,?_⟩
 refine zaZ (fun e=>?_) (fun e=>?_)
 ·refine⟨_,_,rfl,rfl,?_⟩
  have e1:0<=t:=oDt e
  have e2:decide (0<=t/\t<=20)=decide (t<=20):=decide_eq_decide.mpr ⟨fun z=>z.2,fun z=>⟨e1,z⟩⟩
  rw[e2]at k
  exact k
 ·have e2:decide (0<=t/\t<=20)=false:=decide_eq_false fun z=>e (decide_eq_true z.1)
  rw[e2]at k
  exact k
inductive zs6(A:Ad)(vs:List V)(H:Hp)(Q:VK)(E:XK):Prop|I:∀(bk:Addr) (m:Sp.M) (a:Int),vs=[.ref bk,.int a]->zaE A H bk m->Q (.bl (decide (0<=a/\a<m.plan.accounts))) H->zs6 A vs H Q E
theorem zce(T:Txt K mg A):zH P w K mg base CX0 41 A.zfA A.ze7 ["self","a"] (zs6 A):=by
 refine T.zh5.ok zns (fun _ _ _ _ h=>?_) fun _ _ _ s H vs Q E hr h=>?_
 ·obtain⟨bk,m,a,rfl,_⟩:=h
  rfl
 obtain⟨bk,m,a,rfl,⟨d,pa,b,r,cv,n,N,bs,qs,ras,B,_⟩,k⟩:=h
 refine⟨_,(zh (zo (zf0 zds zgq zi (pv 1) (zg (zg (pv 0) rfl) rfl)))),?_⟩
 obtain⟨dp,hp⟩:=B.plan
 rw[B.is.acc]at k
 refine⟨_,rfl,_,_,rfl,rfl,_,rfl,?_⟩
 refine zaZ (fun e=>?_) (fun e=>?_)
 ·refine⟨_,rfl,bk,_,d,_,_,rfl,B.ins,T.zB,T.zai,zaB _ _,pa,_,dp,_,_,rfl,hp,T.zaI,T.zbL,zby _ _ _ _,_,_,rfl,rfl,?_⟩
  have e1:0<=a:=oDt e
  have e2:decide (0<=a/\a<(n:Int))=decide (a<(n:Int)):=decide_eq_decide.mpr ⟨fun z=>z.2,fun z=>⟨e1,z⟩⟩
  rw[e2]at k
  exact k
 ·have e2:decide (0<=a/\a<(n:Int))=false:=decide_eq_false fun z=>e (decide_eq_true z.1)
  rw[e2]at k
  exact k
inductive zqH(A:Ad)(vs:List V)(H:Hp)(Q:VK)(E:XK):Prop|I:∀(bk:Addr) (m:Sp.M) (a:Int),vs=[.ref bk,.int a]->zaE A H bk m->Q (.bl (decide (0<=a/\a<m.plan.params))) H->zqH A vs H Q E
theorem zgF(T:Txt K mg A):zH P w K mg base CX0 41 A.zeK A.zer ["self","p"] (zqH A):=by
 refine T.zgU.ok zlV (fun _ _ _ _ h=>?_) fun _ _ _ s H vs Q E hr h=>?_
 ·obtain⟨bk,m,a,rfl,_⟩:=h
  rfl
 obtain⟨bk,m,a,rfl,⟨d,pa,b,r,cv,n,N,bs,qs,ras,B,_⟩,k⟩:=h
 refine⟨_,(zh (zo (zf0 zds zgq zi (pv 1) (zg (zg (pv 0) rfl) rfl)))),?_⟩
 obtain⟨dp,hp⟩:=B.plan
 rw[B.is.par]at k
 refine⟨_,rfl,_,_,rfl,rfl,_,rfl,?_⟩
 refine zaZ (fun e=>?_) (fun e=>?_)
 ·refine⟨_,rfl,bk,_,d,_,_,rfl,B.ins,T.zB,T.zai,zaB _ _,pa,_,dp,_,_,rfl,hp,T.zaI,T.zac,zaw _ _ _ _,_,_,rfl,rfl,?_⟩
  have e1:0<=a:=oDt e
  have e2:decide (0<=a/\a<(N:Int))=decide (a<(N:Int)):=decide_eq_decide.mpr ⟨fun z=>z.2,fun z=>⟨e1,z⟩⟩
  rw[e2]at k
  exact k
 ·have e2:decide (0<=a/\a<(N:Int))=false:=decide_eq_false fun z=>e (decide_eq_true z.1)
  rw[e2]at k
  exact k
def gate(ok fm:Bool)(m:Sp.M)(t:Nat)(f:List Rat->List Sp.zt->List Int):List Int:=if ok=true then if fm=true then Sp.zcA m.vals fun ps=>Sp.zbs ps m.plan t (f ps)else [-2]else [-1]
theorem zA5{m:Sp.M}{t:Nat}{ps:List Rat}{s:List Sp.zt}(h:m.vals=some ps)(e:Sp.zaj ps m.plan t=.ok s)(f:List Rat->List Sp.zt->List Int):gate true true m t f=f ps s:=by
 unfold gate
 rw[if_pos rfl,if_pos rfl,h]
 show Sp.zbs ps m.plan t (f ps)=_
 unfold Sp.zbs
 rw[e]
theorem zzX{m:Sp.M}{t:Nat}{ps:List Rat}{x}(h:m.vals=some ps)(e:Sp.zaj ps m.plan t=.error x)(f:List Rat->List Sp.zt->List Int):gate true true m t f=[-5]:=by
 unfold gate
 rw[if_pos rfl,if_pos rfl,h]
 show Sp.zbs ps m.plan t (f ps)=_
 unfold Sp.zbs
 rw[e]
theorem zzY{m:Sp.M}{t:Nat}(h:m.vals=none)(f:List Rat->List Sp.zt->List Int):gate true true m t f=[-4]:=by
 unfold gate
 rw[if_pos rfl,if_pos rfl,h]
 rfl
theorem zlk{m:Sp.M}(t:Int)(f:Nat->List Rat->List Sp.zt->List Int):Sp.inT t (fun t=>Sp.zcA m.vals fun ps=>Sp.zbs ps m.plan t (f t ps))=gate (decide (0<=t/\t<=20)) true m t.toNat (f t.toNat):=by
 unfold Sp.inT gate
 by_cases h:0<=t/\t<=20
 ·rw[if_pos h,decide_eq_true h,if_pos rfl,if_pos rfl]
 ·rw[if_neg h,decide_eq_false h];rfl
theorem zol{m:Sp.M}(t:Int)(n:Nat)(l:List Int)(f:Nat->List Rat->List Rat->List Sp.zt->List Int):Sp.inT t (fun t=>Sp.zhB n l fun w=>Sp.zcA m.vals fun ps=>Sp.zbs ps m.plan t (f t w ps))=gate (decide (0<=t/\t<=20)) (Sp.zaF n l).isSome m t.toNat (f t.toNat ((Sp.zaF n l).getD [])):=by
 unfold Sp.inT gate Sp.zhB
 by_cases h:0<=t/\t<=20
 ·rw[if_pos h,decide_eq_true h,if_pos rfl]
  cases Sp.zaF n l with
  | none=>rfl
  | some q=>rfl
 ·rw[if_neg h,decide_eq_false h];rfl
theorem zhZ{m:Sp.M}{a:Int}{n:Nat}{ok fm:Bool}{t:Nat}{g:Nat->List Int}{f:List Rat->List Sp.zt->List Int}(h:0<=a/\a<n->g a.toNat=gate ok fm m t f):Sp.inN a n g=gate (decide (0<=a/\a<n)&&ok) fm m t f:=by
 unfold Sp.inN
 by_cases e:0<=a/\a<n
 ·rw[if_pos e,h e,decide_eq_true e,Bool.true_and]
 ·rw[if_neg e,decide_eq_false e,Bool.false_and];rfl
theorem zeg{c c2:Bool}{tb:TE}{σ:L2.St}{H:Hp}{Q:VK}(h1 :∀R:VK,R (.bl c2) H->tb σ H R)(h:Q (.bl (c&&c2)) H):if c=true then tb σ H Q else Q (.bl false) H:=by
 cases c with
 | true=>exact zaY (h1 Q h)
 | false=>exact zaT h
inductive zxF(A:Ad)(vs:List V)(H:Hp)(Q:VK)(E:XK):Prop|I:∀(bk:Addr) (m:Sp.M) (ok fm:Bool) (t:Int),vs=[.ref bk,.bl ok,.bl fm,.int t]->zaE A H bk m->(ok=true->0<=t/\t<=20)->(∀x,(∀f,gate ok fm m t.toNat f=[x])->∀(H':Hp) (l:Addr),zaE A H' bk m->zS H H'->H' l=some (.lst [.int x])->Q (.ref l) H')->(∀ps s,ok=true->fm=true->m.vals=some ps->Sp.zaj ps m.plan t.toNat=.ok s->(∀f,gate ok fm m t.toNat f=f ps s)->∀(H':Hp) (l:Addr),zbT A H' bk m ps t.toNat->zS H H'->H' l=some (.lst [])->Q (.ref l) H')->zxF A vs H Q E
theorem zbm(B:Bs P base)(T:Txt K mg A):zH P w K mg base CX0 49 A.zhq A.zgP ["self","is_there","is_formed","t"] (zxF A):=by
 have zbk:=zcD (w:=w) B T
 refine T.zki.ok zqA (fun _ _ _ _ h=>?_) fun _ _ _ s H vs Q E hr h=>?_
 ·obtain⟨bk,m,ok,fm,t,rfl,_⟩:=h
  rfl
 obtain⟨bk,m,ok,fm,t,rfl,BA,hok,k1,k2⟩:=h
 refine zQa (zY (zgo (zaG (pv 1) (fun _=>rfl))) (zh (zo (zL (za (zas rfl T.zhH) zc)))) zJ) (zQc (zY (zgo (zaG (pv 2) (fun _=>rfl))) (zh (zo (zL (za (zas rfl T.zjU) zc)))) zJ) (zQc (zY (ztF (ztE (zg (pv 0) rfl))) (zh (zo (zL (za (zas rfl T.zpi) zc)))) zJ) (zQc (zY (zaG (zp (zg (pv 0) rfl) T.zO T.zcE zbk hr T.zcS .nil zj (za (pv 3) zc)) (fun _=>rfl)) (zh (zo (zL (za (zas rfl T.zpj) zc)))) zJ) (zQl (zh (zo (zL zc))) ?_))));intros
 have BA':=BA
 refine zHd ?_;intro
 obtain⟨d,pa,b,r,cv,n,N,bs,qs,ras,BP,hv⟩:=BA
 refine⟨_,rfl,_,rfl,?_⟩
 cases ok with
 | false=>
  refine zaY ?_
  refine⟨zbC,fun l hl=>?_⟩
  exact k1 (-1) (fun f=>rfl) _ l (BA'.same (zl hl)) (zS.same (zl hl)) zd
 | true=>
  refine zaT ?_
  refine⟨_,rfl,_,rfl,?_⟩
  cases fm with
  | false=>
   refine zaY ?_
   refine⟨zbC,fun l hl=>?_⟩
   exact k1 (-2) (fun f=>rfl) _ l (BA'.same (zl hl)) (zS.same (zl hl)) zd
  | true=>
  refine zaT ?_
  refine⟨_,rfl,bk,_,d,_,_,rfl,BP.ins,T.zB,T.z8,zaD _ _,_,rfl,?_⟩
  rcases hv with⟨hv,rfl⟩|⟨c,rs,ss,ff,ps,sa,fl,rfl,C⟩
  ·refine zaY ?_
   refine⟨zbC,fun l hl=>?_⟩
   exact k1 (-4) (zzY hv) _ l (BA'.same (zl hl)) (zS.same (zl hl)) zd
  ·refine zaT ?_
   refine zHd ?_;intro
   obtain⟨h0,h20⟩:=hok rfl
   obtain⟨dc,hc⟩:=C.at_.ins
   have et:t=((t.toNat:Nat):Int):=by omega
   refine⟨_,rfl,bk,_,d,_,_,rfl,BP.ins,T.zB,T.z8,zaD _ _,c,dc,_,rfl,hc,zaz _ _ _ _,_,rfl,?_⟩
   refine⟨c,r,rs,ss,ff,qs,ps,m.plan,N+1,sa,fl,n,N,bs,t.toNat,(by rw[<-et];rfl),C.at_,BP.is,C.v15,C.few,by omega,fun H' f2 l2 sa2 fl2 C2 few2 kp hl2 hrdy=>?_⟩
   refine zHd ?_;intro
   obtain⟨ras',BP'⟩:=BP.moved (sa2:=sa2) (fl2:=fl2) (f2:=f2) C.at_ kp
   have CV:CvAt A H' c r rs ss f2 qs ps N sa2 fl2 m:=⟨C.vals,C2,C.v15,few2⟩
   have kk:=zpd C.at_ kp
   refine⟨_,.inl ⟨_,SqL.of hl2,rfl⟩,?_⟩
   cases ep:Sp.zaj ps m.plan t.toNat with
   | error e=>
    have e1:zbO ps m.plan t.toNat=[(e.1.1:Int),(e.1.2:Int),(e.2:Int)]:=by unfold zbO;rw[ep]
    rw[e1]
    refine zaY ?_
    refine⟨zbC,fun l hl=>?_⟩
    exact k1 (-5) (zzX C.vals ep) _ l (zaE.same ⟨d,pa,b,r,_,n,N,bs,qs,ras',BP',.inr ⟨c,rs,ss,f2,ps,sa2,fl2,rfl,CV⟩⟩ (zl hl)) (kk.trans (zS.same (zl hl))) zd
   | ok u=>
    have e1:zbO ps m.plan t.toNat=[]:=by unfold zbO;rw[ep]
    have hlt:=hrdy e1
    rw[e1]
    refine zaT ?_
    refine⟨Nat.zero_le _,fun l hl=>?_⟩
    exact k2 ps u rfl rfl C.vals ep (zA5 C.vals ep) _ l (zbT.same ⟨d,pa,b,r,c,rs,ss,f2,n,N,bs,qs,ras',sa2,fl2,BP',CV,hlt⟩ (zl hl)) (kk.trans (zS.same (zl hl))) zd
structure Rdy(A:Ad)(H:Hp)(bk:Addr)(m:Sp.M)(ps:List Rat)(t:Nat)(u:List Sp.zt)(d pa b r c rs ss ff:Addr)(n N:Nat)(sa qas:List Addr)(x r1 l1:Addr)(as:List Addr)(sh:Sh)(lines:List Int):Prop where
 ins:H bk=some (.ins A.zax d (zcu pa (.ref c)))
 plan:zd4 A.zbY H pa n N b r
 crs :∃dc,H c=some (.ins A.zao dc (zbN r rs ss ff))
 sheets:H ss=some (.lst (sa.map V.ref))
 at_:sa[t]? = some x
 S:zae ⟨A.zR,A.zU,rs,10*t+1⟩ H x r1 l1 as sh lines
 ok:zdX N (N+1) ps sh u
 sz:Sz 1000000 sh
 t20:t<=20
 ul:u.length=n
 vals:H rs=some (.lst (qas.map V.ref))
 qs:zam H qas ps
 v15:zfM N ps
 acc:m.plan.accounts=n
 par:m.plan.params=N
 n6:n<=6
 N8:N<=8
theorem Rdy.same{H H':Hp}{bk:Addr}{m:Sp.M}{ps:List Rat}{t:Nat}{u:List Sp.zt}{d pa b r c rs ss ff:Addr}{n N:Nat}{sa qas:List Addr}{x r1 l1:Addr}{as:List Addr}{sh:Sh}{lines:List Int}
  (R:Rdy A H bk m ps t u d pa b r c rs ss ff n N sa qas x r1 l1 as sh lines) (s:zq H H'):Rdy A H' bk m ps t u d pa b r c rs ss ff n N sa qas x r1 l1 as sh lines:=
 ⟨s _ _ R.ins,R.plan.same s,let⟨dc,h⟩:=R.crs;⟨dc,s _ _ h⟩,s _ _ R.sheets,R.at_,R.S.same s,R.ok,R.sz,R.t20,R.ul,s _ _ R.vals,R.qs.same s,R.v15,R.acc,R.par,R.n6,R.N8⟩
theorem zbT.le{H:Hp}{bk:Addr}{m:Sp.M}{ps:List Rat}{t i:Nat}(h:zbT A H bk m ps t)(hi:i<=t):zbT A H bk m ps i:=by
 obtain⟨d,pa,b,r,c,rs,ss,ff,n,N,bs,qs,ras,sa,fl,B,C,ht⟩:=h
 exact⟨d,pa,b,r,c,rs,ss,ff,n,N,bs,qs,ras,sa,fl,B,C,by omega⟩
theorem zbT.run{H:Hp}{bk:Addr}{m:Sp.M}{ps:List Rat}{t:Nat}(h:zbT A H bk m ps t) :∃u,Sp.zaj ps m.plan t=.ok u:=by
 obtain⟨d,pa,b,r,c,rs,ss,ff,n,N,bs,qs,ras,sa,fl,B,C,ht⟩:=h
 exact C.at_.ok_lt ht
theorem zbT.rdy{H:Hp}{bk:Addr}{m:Sp.M}{ps:List Rat}{t:Nat}{u:List Sp.zt}(h:zbT A H bk m ps t)(e:Sp.zaj ps m.plan t=.ok u) :
  ∃(d pa b r c rs ss ff:Addr) (n N:Nat) (sa qas:List Addr) (x r1 l1:Addr) (as:List Addr) (sh:Sh) (lines:List Int),Rdy A H bk m ps t u d pa b r c rs ss ff n N sa qas x r1 l1 as sh lines:=by
 obtain⟨d,pa,b,r,c,rs,ss,ff,n,N,bs,qs,ras,sa,fl,B,C,ht⟩:=h
 obtain⟨r1,l1,as,sh,lines,s,S,e2,o,z⟩:=C.at_.each t _ (gge ht)
 rw[e]at e2
 cases e2
 obtain⟨qas,h1,h2⟩:=C.at_.vals
 have few:=B.is.few
 have c21:=C.few
 have hp:=B.is.par
 rw[hp]at o
 refine⟨d,pa,b,r,c,rs,ss,ff,n,N,sa,qas,_,r1,l1,as,sh,lines,B.ins,B.plan,C.at_.ins,C.at_.sheets,gge ht,S,o,z.mono ?_,by omega,?_,h1,h2,C.v15,B.is.acc,hp,few.1,few.2.1⟩
 ·unfold bd
  omega
 ·rw[zgj t _ e,B.is.beg,lmm,B.is.len]
theorem zli.amountIn{H:Hp}{rs:Addr}{W:Nat}{ps:List Rat}{pl:Vagrao.Plan}{t:Nat}{x:Addr}{u:List Sp.zt}{a:Nat}{Q:VK}{E:XK}(h:zli A H rs W ps pl t x)(e:Sp.zaj ps pl t=.ok u)(ht:t<=20)(ha:a<u.length)(k:QtQ H (Sp.dget u a).1 Q):zc6 A [.ref x,.int (a:Int)] H Q E:=by
 obtain⟨r,l,as,sh,lines,s,S,e2,o,z⟩:=h
 rw[e]at e2
 cases e2
 have R:=o.row ha
 have hw:=o.wid
 rw[<-R.am]at k
 exact⟨rs,10*t+1,x,r,l,as,sh,lines,a,rfl,S,by rw[o.rows];exact ha,by rw[R.len];omega,by omega,nLt z.sc (by unfold bd;omega),k⟩
section
variable {H:Hp}{bk:Addr}{m:Sp.M}{ps:List Rat}{t:Nat}{u:List Sp.zt}{d pa b r c rs ss ff:Addr}{n N:Nat}{sa qas:List Addr}{x r1 l1:Addr}{as:List Addr}{sh:Sh}{lines:List Int}{Q:VK}{E:XK}
theorem Rdy.amountIn(R:Rdy A H bk m ps t u d pa b r c rs ss ff n N sa qas x r1 l1 as sh lines){a:Nat}(ha:a<n)(k:QtQ H (Sp.dget u a).1 Q):zc6 A [.ref x,.int (a:Int)] H Q E:=by
 have hul:=R.ul
 have ht:=R.t20
 have Rr:=R.ok.row (a:=a) (by omega)
 rw[<-Rr.am]at k
 exact⟨rs,10*t+1,x,r1,l1,as,sh,lines,a,rfl,R.S,by rw[R.ok.rows];omega,by rw[Rr.len];omega,by omega,nLt R.sz.sc (by decide),k⟩
theorem Rdy.ratIx(R:Rdy A H bk m ps t u d pa b r c rs ss ff n N sa qas x r1 l1 as sh lines){p:Nat}(hp:p<N) :∃ra,qas[p]? = some ra/\H ra=some (qT (Sp.get ps p))/\RatIx H rs p (Sp.get ps p).num ((Sp.get ps p).den:Int)/\Sp.wt (Sp.get ps p)<=1500:=by
 have hl:=R.qs.length
 have hv:=R.v15.len
 obtain⟨ra,hra⟩ :∃ra,qas[p]? = some ra:=⟨_,gge (by omega)⟩
 obtain⟨q,hq,hq2⟩:=R.qs.get hra
 have e:=zuB hq
 rw[e]
 exact⟨ra,hra,hq2,⟨qas,ra,R.vals,hra,hq2⟩,R.v15.wt q (mge hq)⟩
theorem Rdy.slopeIn(R:Rdy A H bk m ps t u d pa b r c rs ss ff n N sa qas x r1 l1 as sh lines){a p:Nat}(ha:a<n)(hp:p<N)(k:QtQ H ((Sp.dget u a).2 p) Q):zhc A [.ref x,.int (a:Int),.int (p:Int)] H Q E:=by
 have hul:=R.ul
 have ht:=R.t20
 have Rr:=R.ok.row (a:=a) (by omega)
 rw[<-Rr.sl (by omega) p]at k
 obtain⟨ra,_,_,hix,hw⟩:=R.ratIx hp
 obtain⟨b1,b2⟩:=zeY hw
 exact⟨rs,10*t+1,x,r1,l1,as,sh,lines,a,p,_,_,rfl,R.S,by rw[R.ok.rows];omega,by rw[Rr.len];omega,hix,by omega,nLt R.sz.sc (by decide),by omega,k⟩
theorem Rdy.wtA(R:Rdy A H bk m ps t u d pa b r c rs ss ff n N sa qas x r1 l1 as sh lines){a:Nat}(ha:a<n):Sp.wt (Sp.dget u a).1<=2000000:=by
 have hul:=R.ul
 have Rr:=R.ok.row (a:=a) (by omega)
 rw[<-Rr.am]
 have h1:Sp.wt (zn sh.1 (gI (zD sh.2 a) 0))<=bI (gI (zD sh.2 a) 0)+bI sh.1:=zdE R.ok.pos _
 have h2:=(R.sz.rowAt a).get 0
 have h3:=R.sz.sc
 omega
theorem Rdy.wtS(R:Rdy A H bk m ps t u d pa b r c rs ss ff n N sa qas x r1 l1 as sh lines){a p:Nat}(ha:a<n)(hp:p<N):Sp.wt ((Sp.dget u a).2 p)<=2100000:=by
 have hul:=R.ul
 have Rr:=R.ok.row (a:=a) (by omega)
 rw[<-Rr.sl (by omega) p]
 obtain⟨ra,_,_,hix,hw⟩:=R.ratIx hp
 obtain⟨b1,b2⟩:=zeY hw
 have h1:Sp.wt (zn (sh.1*resQ ps p) (gI (zD sh.2 a) (p+1)))<=bI (gI (zD sh.2 a) (p+1))+bI (sh.1*resQ ps p):=zdE (Int.mul_pos R.ok.pos (ziY _)) _
 have h2:=(R.sz.rowAt a).get (p+1)
 have h3:=R.sz.sc
 have h4:=zbc sh.1 (resQ ps p)
 have h5:bI (resQ ps p)<=bI (Sp.get ps p).num+1:=zfK _
 omega
end
theorem qq(q:Rat):zn (q.den:Int) q.num=q:=(zrc q).symm
theorem den0(q:Rat):0<(q.den:Int):=Int.natCast_pos.mpr q.den_pos
theorem zBT(x y:Rat):Sp.wt (x*y)<=Sp.wt x+Sp.wt y:=by
 have e:=zst (den0 x) (den0 y) x.num y.num
 rw[qq,qq]at e
 rw[<-e]
 have h1:Sp.wt (zn ((x.den:Int)*y.den) (x.num*y.num))<=bI (x.num*y.num)+bI ((x.den:Int)*y.den):=zdE (Int.mul_pos (den0 x) (den0 y)) _
 have h2:=zbc x.num y.num
 have h3:=zbc (x.den:Int) y.den
 rw[zeS x,zeS y]
 omega
theorem zy0(x y:Rat):Sp.wt (x-y)<=2*(Sp.wt x+Sp.wt y)+1:=by
 have e:=zsu (den0 x) (den0 y) x.num y.num
 rw[qq,qq]at e
 rw[<-e]
 have h1:Sp.wt (zn ((x.den:Int)*y.den) (x.num*y.den-y.num*x.den))<=bI (x.num*y.den-y.num*x.den)+bI ((x.den:Int)*y.den):=zdE (Int.mul_pos (den0 x) (den0 y)) _
 have h2:=zbc x.num y.den
 have h3:=zbc y.num x.den
 have h4:=zbc (x.den:Int) y.den
 have h5:=zeS x
 have h6:=zeS y
 have h7:bI (x.num*y.den-y.num*x.den)<=Sp.wt x+Sp.wt y+1:=zyG (by omega) (by omega)
 omega
theorem zBU(x:Rat){y:Rat}(hy:y≠0):Sp.wt (x/y)<=Sp.wt x+Sp.wt y:=by
 have hn:y.num≠0:=fun z=>hy (Rat.num_eq_zero.mp z)
 have e:=zsv (den0 x) (den0 y) x.num hn
 rw[qq,qq]at e
 rw[<-e]
 have h2:=zbc x.num y.den
 have h3:=zbc (x.den:Int) y.num
 have h5:=zeS x
 have h6:=zeS y
 by_cases h:0<y.num
 ·have h1:Sp.wt (zn ((x.den:Int)*y.num) (x.num*y.den))<=bI (x.num*y.den)+bI ((x.den:Int)*y.num):=zdE (Int.mul_pos (den0 x) h) _
  omega
 ·rw[<-zsw]
  have h1:Sp.wt (zn (-((x.den:Int)*y.num)) (-(x.num*y.den)))<=bI (-(x.num*y.den))+bI (-((x.den:Int)*y.num)):=zdE (by rw[<-Int.mul_neg];exact Int.mul_pos (den0 x) (by omega)) _
  rw[zje,zje]at h1
  omega
theorem twoIn{C:Int->Prop}{f:Rat->Rat->Rat}{H:Hp}{p q:Addr}{x y:Rat}{Q:VK}{E:XK}(hp:H p=some (qT x))(hq:H q=some (qT y))(hC:C y.num)(wx:Sp.wt x<=30000000)(wy:Sp.wt y<=30000000)(k :∀r,H r=none->Q (.ref r) (upd H r (qT (f x y)))):zlf K C f [.ref p,.ref q] H Q E:=by
 rw[zeS]at wx wy
 refine⟨p,q,_,_,_,_,rfl,SqT.of hp,SqT.of hq,den0 x,den0 y,hC,by omega,by omega,by omega,by omega,?_⟩
 rw[qq,qq]
 exact k
def zdH(A:Ad)(H:Hp)(bk:Addr)(m:Sp.M)(ans:List Int)(Q:VK):Prop:=∀(H':Hp) (l:Addr),zaE A H' bk m->zS H H'->H' l=some (.lst (ans.map V.int))->Q (.ref l) H'
theorem zy1{t:Int}(h:0<=t/\t<=20)(f:Nat->List Int):Sp.inT t f=f t.toNat:=if_pos h
theorem zw2{t:Int}(h:¬(0<=t/\t<=20))(f:Nat->List Int):Sp.inT t f=[-1]:=if_neg h
inductive zzZ(A:Ad)(vs:List V)(H:Hp)(Q:VK)(E:XK):Prop|I:∀(bk:Addr) (m:Sp.M) (t:Int),vs=[.ref bk,.int t]->zaE A H bk m->zdH A H bk m (Sp.ask m (.fault t)) Q->zzZ A vs H Q E
theorem zs7(B:Bs P base)(T:Txt K mg A):zH P w K mg base CX0 49 A.zjE A.zir ["self","t"] (zzZ A):=by
 have zbk:=zcD (w:=w) B T
 have zaK:=(@zb2 P w K mg base A T).up 48
 refine T.zmN.ok zmA (fun _ _ _ _ h=>?_) fun _ _ _ s H vs Q E hr h=>?_
 ·obtain⟨bk,m,t,rfl,_⟩:=h
  rfl
 obtain⟨bk,m,t,rfl,BA,k⟩:=h
 refine zQa (zY (zgo (zaG (zw zaK hr rfl T.zb3 T.zbF.kp T.zcs .nil zj (za (pv 1) zc)) (fun _=>rfl))) (zh (zo (zL (za (zas rfl T.zhH) zc)))) zJ) (zQc (zY (ztF (ztE (zg (pv 0) rfl))) (zh (zo (zL (za (zas rfl T.zpi) zc)))) zJ) (zQc (qD 2 zmA.nd (zp (zg (pv 0) rfl) T.zO T.zcE zbk hr T.zcS .nil zj (za (pv 1) zc))) (zQl (zh (zo (zlF (zaG (pv 2) (fun _=>rfl)) (zW ztM (zL (za zi zc)) (pv 2)) (zL (za zi zc))))) ?_)));intros
 have BA':=BA
 refine zHd ?_;intro
 obtain⟨d,pa,b,r,cv,n,N,bs,qs,ras,BP,hv⟩:=BA
 have ask0:Sp.ask m (.fault t)=Sp.inT t fun t=>Sp.zcA m.vals fun ps=>Sp.zjb ps m.plan t:=rfl
 refine⟨_,rfl,t,rfl,_,rfl,?_⟩
 by_cases ht:0<=t/\t<=20
 ·rw[decide_eq_true ht]
  rw[ask0,zy1 ht]at k
  refine zaT ?_
  refine⟨_,rfl,bk,_,d,_,_,rfl,BP.ins,T.zB,T.z8,zaD _ _,_,rfl,?_⟩
  rcases hv with⟨hv,rfl⟩|⟨c,rs,ss,ff,ps,sa,fl,rfl,C⟩
  ·refine zaY ?_
   refine⟨zbC,fun l hl=>?_⟩
   rw[hv]at k
   exact k _ l (BA'.same (zl hl)) (zS.same (zl hl)) zd
  ·refine zaT ?_
   refine zHd ?_;intro
   obtain⟨dc,hc⟩:=C.at_.ins
   have et:t=((t.toNat:Nat):Int):=by omega
   refine⟨_,rfl,bk,_,d,_,_,rfl,BP.ins,T.zB,T.z8,zaD _ _,c,dc,_,rfl,hc,zaz _ _ _ _,_,rfl,?_⟩
   refine⟨c,r,rs,ss,ff,qs,ps,m.plan,N+1,sa,fl,n,N,bs,t.toNat,(by rw[<-et];rfl),C.at_,BP.is,C.v15,C.few,by omega,fun H' f2 l2 sa2 fl2 C2 few2 kp hl2 hrdy=>?_⟩
   refine zHd ?_;intro
   obtain⟨ras',BP'⟩:=BP.moved (sa2:=sa2) (fl2:=fl2) (f2:=f2) C.at_ kp
   have CV:CvAt A H' c r rs ss f2 qs ps N sa2 fl2 m:=⟨C.vals,C2,C.v15,few2⟩
   have BA2:zaE A H' bk m:=⟨d,pa,b,r,_,n,N,bs,qs,ras',BP',.inr ⟨c,rs,ss,f2,ps,sa2,fl2,rfl,CV⟩⟩
   have kk:=zpd C.at_ kp
   rw[C.vals]at k
   refine⟨_,rfl,_,.inl ⟨_,SqL.of hl2,rfl⟩,?_⟩
   have k':zdH A H bk m (Sp.zjb ps m.plan t.toNat) Q:=k
   unfold Sp.zjb at k'
   cases ep:Sp.zaj ps m.plan t.toNat with
   | error e=>
    have e1:zbO ps m.plan t.toNat=[(e.1.1:Int),(e.1.2:Int),(e.2:Int)]:=by unfold zbO;rw[ep]
    rw[e1]at hl2
    rw[e1]
    simp only[ep]at k'
    refine zaY ?_
    refine⟨zbC,fun z hz=>?_⟩
    refine⟨_,rfl,z,l2,_,_,rfl,rfl,zd,zl hz _ _ hl2,(by show 1+3<=sizeLine;decide),fun l hl=>?_⟩
    exact k' _ l ((BA2.same (zl hz)).same (zl hl)) (kk.trans (zS.same ((zl hz).trans (zl hl)))) zd
   | ok u=>
    have e1:zbO ps m.plan t.toNat=[]:=by unfold zbO;rw[ep]
    rw[e1]
    simp only[ep]at k'
    refine zaT ?_
    refine⟨zbC,fun l hl=>?_⟩
    exact k' _ l (BA2.same (zl hl)) (kk.trans (zS.same (zl hl))) zd
 ·rw[decide_eq_false ht]
  rw[ask0,zw2 ht]at k
  refine zaY ?_
  refine⟨zbC,fun l hl=>?_⟩
  exact k _ l (BA'.same (zl hl)) (zS.same (zl hl)) zd
def QInv(H1:Hp)(D:Addr)(qs:List Rat)(i:Nat)(H:Hp):Prop:=zq H1 H/\∃tas:List Addr,H D=some (.lst (tas.map V.ref))/\tas.length=i/\zam H tas (qs.take i)
theorem QInv.start{H1:Hp}{D:Addr}{qs:List Rat}(hD:H1 D=none):QInv H1 D qs 0 (upd H1 D (.lst [])):=⟨zl hD,[],zd,rfl,.nil⟩
theorem QInv.step{H1 H H4:Hp}{D p:Addr}{qs:List Rat}{i:Nat}{q:Rat}(I:QInv H1 D qs i H)(hD:H1 D=none)(hq:qs[i]? = some q)(hi:i<200)(s:zq H H4)(hp:H4 p=some (qT q)) :
  ∃acc,H4 D=some (.lst acc)/\acc.length<sizeLine/\QInv H1 D qs (i+1) (upd H4 D (.lst (acc++[.ref p]))):=by
 obtain⟨s1,tas,h1,h2,h3⟩:=I
 have hD4:=s _ _ h1
 refine⟨_,hD4,(by rw[lmm];exact zbe (by omega)),fun b o hb=>?_,tas++[p],?_,by rw[lEa,h2];rfl,?_⟩
 ·rw[zf (zk hb hD)]
  exact s _ _ (s1 _ _ hb)
 ·rw[zd,lMa]
  rfl
 ·rw[Pr.zab hq]
  exact((h3.same s).snoc hp).upd_lst hD4
theorem zcm{α:Type}{n i:Nat}(f:Nat->α)(h:i<n):((List.range n).map f)[i]? = some (f i):=by
 rw[gEm,List.getElem?_range h]
 rfl
theorem zz0(u:List Sp.zt):u.map (·.1)=(List.range u.length).map fun a=>(Sp.dget u a).1:=by
 refine List.ext_getElem? fun i=>?_
 by_cases h:i<u.length
 ·rw[zcm _ h,gEm,gge h]
  unfold Sp.dget
  rw[gDm,gge h]
  rfl
 ·rw[List.getElem?_eq_none (by rw[lmm];omega),List.getElem?_eq_none (by rw[lmm,List.length_range];omega)]
inductive zvW(A:Ad)(vs:List V)(H:Hp)(Q:VK)(E:XK):Prop|I:∀(bk:Addr) (m:Sp.M) (t:Int),vs=[.ref bk,.int t]->zaE A H bk m->zdH A H bk m (Sp.ask m (.run t)) Q->zvW A vs H Q E
theorem zvX(B:Bs P base)(T:Txt K mg A):zH P w K mg base CX0 50 A.zl8 A.zkH ["self","t"] (zvW A):=by
 have zah:=zbm (w:=w) B T
 have zch:=(@zeI P w K mg base A T).up 49
 have zaK:=(@zb2 P w K mg base A T).up 49
 have z9:=(@zbl P w K mg base A T).up 49
 have za8:=(zcQ (w:=w) B T).up 49
 refine T.zpg.ok zfL (fun _ _ _ _ h=>?_) fun _ _ _ s H vs Q E hr h=>?_
 ·obtain⟨bk,m,t,rfl,_⟩:=h
  rfl
 obtain⟨bk,m,t,rfl,BA,k⟩:=h
 refine zQa (qD 2 zfL.nd (zp (pv 0) T.zB T.zbn zah hr T.zbA .nil zj (za (zw zaK hr rfl T.zb3 T.zbF.kp T.zcs .nil zj (za (pv 1) zc)) (za zeO (za (pv 1) zc))))) (zQc (zY (zaG (pv 2) (fun _=>rfl)) (zh (zo (pv 2))) zJ) (zQc (zC (i:=3) zfL.nd rfl (Or.inr rfl) (zp (zg (pv 0) rfl) T.zO T.za0 z9 hr T.za7 .nil zj (za (pv 1) zc))) (zQl (zh (zo (zw zch hr rfl T.zec T.zdc.kp T.zff .nil zj (za (zL (za (zg (zg (pv 0) rfl) rfl) zc)) (za (zfR (te:=tMeth A.zR "amount" (zc6 A) [] E0 (zbd 3) (zc0 (zbd 4) zdf)) rfl zfL.nd (zc3 rfl T.zcW (za (zg (zg (pv 0) rfl) rfl) zc)) (zbQ (own:=[("a",4)]) (by rfl)) (fun _ _ _ _ _=>(zag (i:=4) zfL.nd rfl (Or.inl rfl))) (fun _ _ _ _ _=>zcq) (fun _ _ _ _ _=>(zp (pv 3) T.zz T.zcn za8 hr T.zcz .nil zj (za (pv 4) zc)))) zc))))) ?_)));intros
 have ask0:Sp.ask m (.run t)=gate (decide (0<=t/\t<=20)) true m t.toNat fun ps s=>Sp.za4 [(m.plan.accounts:Int)] (s.map (·.1)):=by unfold Sp.ask;exact zlk t fun _ _ s=>Sp.za4 [(m.plan.accounts:Int)] (s.map (·.1))
 rw[ask0]at k
 have BA':=BA
 refine zHd ?_;intro
 obtain⟨d0,pa0,b0,r0,cv0,n0,N0,bs0,qs0,ras0,BP0,_⟩:=BA
 refine⟨_,rfl,bk,d0,_,rfl,BP0.ins,za6 _ _,_,rfl,t,rfl,_,rfl,bk,m,decide (0<=t/\t<=20),true,t,rfl,BA',fun e=>oDt e,fun x hg H' l BA2 kk hl=>?_,fun ps u e0 e1 ev ep hg H' l BR kk hl=>?_⟩
 ·exact⟨_,rfl,_,.inl ⟨_,SqL.of hl,rfl⟩,zaY ⟨_,rfl,k H' l BA2 kk (by rw[hg];exact hl)⟩⟩
 ·refine⟨_,rfl,_,.inl ⟨_,SqL.of hl,rfl⟩,zaT ?_⟩
  have ht:0<=t/\t<=20:=oDt e0
  have et:t=((t.toNat:Nat):Int):=by omega
  refine zHd ?_;intro
  obtain⟨d,pa,b,r,c,rs,ss,ff,n,N,sa,qas,x,r1,l1,as,sh,lines,R⟩:=BR.rdy ep
  obtain⟨dp,hp⟩:=R.plan
  obtain⟨dc,hc⟩:=R.crs
  have n6:=R.n6
  have N8:=R.N8
  rw[hg,R.acc,zz0,R.ul]at k
  refine⟨_,rfl,bk,_,d,_,_,rfl,R.ins,T.zB,T.z8,zaD _ _,c,dc,_,rfl,hc,zaz _ _ _ _,_,rfl,c,dc,r,rs,ss,ff,sa,t.toNat,x,(by rw[<-et];rfl),hc,R.sheets,R.at_,?_⟩
  refine⟨_,rfl,bk,_,d,_,_,rfl,R.ins,T.zB,T.zai,zaB _ _,pa,_,dp,_,_,rfl,hp,T.zaI,T.zbL,zby _ _ _ _,zbC,fun z hz=>?_⟩
  have R1:=R.same (zl (o:=.lst [.int (n:Int)]) hz)
  refine zHd ?_;intro
  obtain⟨dp1,hp1⟩:=R1.plan
  refine⟨_,rfl,bk,_,d,_,_,rfl,R1.ins,T.zB,T.zai,zaB _ _,pa,_,dp1,_,_,rfl,hp1,T.zaI,T.zbL,zby _ _ _ _,(n:Int),rfl,by omega,by omega,fun D hD=>?_⟩
  rw[Int.toNat_natCast]
  refine zi5 (QInv _ D ((List.range n).map fun a=>(Sp.dget u a).1)) (QInv.start hD) ?_ ?_
  ·intro i H2 hi I
   have R2:=R1.same I.1
   refine zHd ?_;intro
   obtain⟨dx2,c2,hx2,_⟩:=R2.S.ins
   refine⟨rfl,_,rfl,x,dx2,_,rfl,hx2,zbJ _ _ _ _,_,rfl,?_⟩
   rw[Int.zero_add]
   exact R2.amountIn (E:=E0) hi fun p H3 s3 _ hp3=>I.step hD (zcm _ hi) (by omega) s3 hp3
  ·intro H2 I
   refine zHd ?_;intro
   obtain⟨s2,tas,h1,h2,h3⟩:=I
   rw[tOl (by rw[lmm,List.length_range];exact nLr _)]at h3
   refine⟨z,D,[(n:Int)],tas,_,rfl,s2 _ _ zd,h1,h3,(by show 1<=100;decide),by rw[lmm,List.length_range];omega,fun H3 l3 s3 hl4 hl5=>?_⟩
   have s4:zq H' H3:=(zl hz).trans (s2.trans s3)
   exact k H3 l3 (BR.at_.same s4) (kk.trans (zS.same s4)) hl5
inductive zrw(A:Ad)(vs:List V)(H:Hp)(Q:VK)(E:XK):Prop|I:∀(bk:Addr) (m:Sp.M) (a t:Int),vs=[.ref bk,.int a,.int t]->zaE A H bk m->zdH A H bk m (Sp.ask m (.slopes a t)) Q->zrw A vs H Q E
theorem zrx(B:Bs P base)(T:Txt K mg A):zH P w K mg base CX0 50 A.zis A.zhn ["self","a","t"] (zrw A):=by
 have zah:=zbm (w:=w) B T
 have zch:=(@zeI P w K mg base A T).up 49
 have zaK:=(@zb2 P w K mg base A T).up 49
 have zaQ:=(@zce P w K mg base A T).up 49
 have z9:=(@zbl P w K mg base A T).up 49
 have zcX:=(zfo (w:=w) B T).up 49
 refine T.zlx.ok zdY (fun _ _ _ _ h=>?_) fun _ _ _ s H vs Q E hr h=>?_
 ·obtain⟨bk,m,a,t,rfl,_⟩:=h
  rfl
 obtain⟨bk,m,a,t,rfl,BA,k⟩:=h
 refine zQa (qD 3 zdY.nd (zp (pv 0) T.zB T.zbn zah hr T.zbA .nil zj (za (zfG (zp (pv 0) T.zB T.zcg zaQ hr T.zcr .nil zj (za (pv 1) zc)) (zi3 (zw zaK hr rfl T.zb3 T.zbF.kp T.zcs .nil zj (za (pv 2) zc)))) (za zeO (za (pv 2) zc))))) (zQc (zY (zaG (pv 3) (fun _=>rfl)) (zh (zo (pv 3))) zJ) (zQc (zC (i:=4) zdY.nd rfl (Or.inr rfl) (zp (zg (pv 0) rfl) T.zO T.za0 z9 hr T.za7 .nil zj (za (pv 2) zc))) (zQl (zh (zo (zw zch hr rfl T.zec T.zdc.kp T.zff .nil zj (za (zL (za (zg (zg (pv 0) rfl) rfl) zc)) (za (zfR (te:=tMeth A.zR "slope" (zhc A) [] E0 (zbd 4) (zc0 (zbd 1) (zc0 (zbd 5) zdf))) rfl zdY.nd (zc3 rfl T.zcW (za (zg (zg (pv 0) rfl) rfl) zc)) (zbQ (own:=[("p",5)]) (by rfl)) (fun _ _ _ _ _=>(zag (i:=5) zdY.nd rfl (Or.inl rfl))) (fun _ _ _ _ _=>zcq) (fun _ _ _ _ _=>(zp (pv 4) T.zz T.zfp zcX hr T.zfZ .nil zj (za (pv 1) (za (pv 5) zc))))) zc))))) ?_)));intros
 have ask0:Sp.ask m (.slopes a t)=gate (decide (0<=a/\a<(m.plan.accounts:Int))&&decide (0<=t/\t<=20)) true m t.toNat fun ps s=>Sp.za4 [(m.plan.params:Int)] (Sp.zaR m.plan.params (Sp.dget s a.toNat)):=by
  unfold Sp.ask
  exact zhZ fun ha=>zlk t fun t ps s=>Sp.za4 [(m.plan.params:Int)] (Sp.zaR m.plan.params (Sp.dget s a.toNat))
 rw[ask0]at k
 have BA':=BA
 refine zHd ?_;intro
 obtain⟨d0,pa0,b0,r0,cv0,n0,N0,bs0,qs0,ras0,BP0,_⟩:=BA
 refine⟨_,rfl,bk,d0,_,rfl,BP0.ins,za6 _ _,_,rfl,bk,d0,_,rfl,BP0.ins,za6 _ _,_,rfl,bk,m,a,rfl,BA',_,rfl,?_⟩
 refine zeg (c2:=decide (0<=t/\t<=20)) (fun R hR=>⟨_,rfl,t,rfl,hR⟩) ?_
 refine⟨_,rfl,bk,m,_,true,t,rfl,BA',fun e=>oDt (bAt _ _ |>.mp e).2,fun x hg H' l BA2 kk hl=>?_,fun ps u e0 e1 ev ep hg H' l BR kk hl=>?_⟩
 ·exact⟨_,rfl,_,.inl ⟨_,SqL.of hl,rfl⟩,zaY ⟨_,rfl,k H' l BA2 kk (by rw[hg];exact hl)⟩⟩
 ·refine⟨_,rfl,_,.inl ⟨_,SqL.of hl,rfl⟩,zaT ?_⟩
  have ha:0<=a/\a<(m.plan.accounts:Int):=oDt (bAt _ _ |>.mp e0).1
  have ht:0<=t/\t<=20:=oDt (bAt _ _ |>.mp e0).2
  have et:t=((t.toNat:Nat):Int):=by omega
  have ea:a=((a.toNat:Nat):Int):=by omega
  refine zHd ?_;intro
  obtain⟨d,pa,b,r,c,rs,ss,ff,n,N,sa,qas,x,r1,l1,as,sh,lines,R⟩:=BR.rdy ep
  obtain⟨dp,hp⟩:=R.plan
  obtain⟨dc,hc⟩:=R.crs
  have n6:=R.n6
  have N8:=R.N8
  have hacc:=R.acc
  rw[hg,R.par]at k
  refine⟨_,rfl,bk,_,d,_,_,rfl,R.ins,T.zB,T.z8,zaD _ _,c,dc,_,rfl,hc,zaz _ _ _ _,_,rfl,c,dc,r,rs,ss,ff,sa,t.toNat,x,(by rw[<-et];rfl),hc,R.sheets,R.at_,?_⟩
  refine⟨_,rfl,bk,_,d,_,_,rfl,R.ins,T.zB,T.zai,zaB _ _,pa,_,dp,_,_,rfl,hp,T.zaI,T.zac,zaw _ _ _ _,zbC,fun z hz=>?_⟩
  have R1:=R.same (zl (o:=.lst [.int (N:Int)]) hz)
  refine zHd ?_;intro
  obtain⟨dp1,hp1⟩:=R1.plan
  refine⟨_,rfl,bk,_,d,_,_,rfl,R1.ins,T.zB,T.zai,zaB _ _,pa,_,dp1,_,_,rfl,hp1,T.zaI,T.zac,zaw _ _ _ _,(N:Int),rfl,by omega,by omega,fun D hD=>?_⟩
  rw[Int.toNat_natCast]
  refine zi5 (QInv _ D (Sp.zaR N (Sp.dget u a.toNat))) (QInv.start hD) ?_ ?_
  ·intro i H2 hi I
   have R2:=R1.same I.1
   refine zHd ?_;intro
   obtain⟨dx2,c2,hx2,_⟩:=R2.S.ins
   refine⟨rfl,_,rfl,x,dx2,_,rfl,hx2,zbJ _ _ _ _,_,rfl,_,rfl,?_⟩
   rw[Int.zero_add,ea]
   exact R2.slopeIn (E:=E0) (by omega) hi fun p H3 s3 _ hp3=>I.step hD (zcm _ hi) (by omega) s3 hp3
  ·intro H2 I
   refine zHd ?_;intro
   obtain⟨s2,tas,h1,h2,h3⟩:=I
   have hln:(Sp.zaR N (Sp.dget u a.toNat)).length=N:=by unfold Sp.zaR;rw[lmm,List.length_range]
   rw[tOl (by omega)]at h3
   refine⟨z,D,[(N:Int)],tas,_,rfl,s2 _ _ zd,h1,h3,(by show 1<=100;decide),by omega,fun H3 l3 s3 hl4 hl5=>?_⟩
   have s4:zq H' H3:=(zl hz).trans (s2.trans s3)
   exact k H3 l3 (BR.at_.same s4) (kk.trans (zS.same s4)) hl5
inductive zuD(A:Ad)(vs:List V)(H:Hp)(Q:VK)(E:XK):Prop|I:∀(bk:Addr) (m:Sp.M) (a t:Int),vs=[.ref bk,.int a,.int t]->zaE A H bk m->zdH A H bk m (Sp.ask m (.path a t)) Q->zuD A vs H Q E
theorem zuE(B:Bs P base)(T:Txt K mg A):zH P w K mg base CX0 50 A.zkI A.zjF ["self","a","t"] (zuD A):=by
 have zah:=zbm (w:=w) B T
 have zch:=(@zeI P w K mg base A T).up 49
 have zaK:=(@zb2 P w K mg base A T).up 49
 have zaQ:=(@zce P w K mg base A T).up 49
 have z9:=(@zbl P w K mg base A T).up 49
 have za8:=(zcQ (w:=w) B T).up 49
 refine T.znV.ok zgA (fun _ _ _ _ h=>?_) fun _ _ _ s H vs Q E hr h=>?_
 ·obtain⟨bk,m,a,t,rfl,_⟩:=h
  rfl
 obtain⟨bk,m,a,t,rfl,BA,k⟩:=h
 refine zQa (qD 3 zgA.nd (zp (pv 0) T.zB T.zbn zah hr T.zbA .nil zj (za (zfG (zp (pv 0) T.zB T.zcg zaQ hr T.zcr .nil zj (za (pv 1) zc)) (zi3 (zw zaK hr rfl T.zb3 T.zbF.kp T.zcs .nil zj (za (pv 2) zc)))) (za zeO (za (pv 2) zc))))) (zQc (zY (zaG (pv 3) (fun _=>rfl)) (zh (zo (pv 3))) zJ) (zQc (zlK (te:=tMeth A.zR "amount" (zc6 A) [] E0 (tMeth A.zao "after" (zuC A) [] E0 (tFld K (zbd 0) "course") (zc0 (zbd 5) zdf)) (zc0 (zbd 1) zdf)) rfl zgA.nd (i:=4) rfl rfl rfl (zc3 rfl T.zcW (za (zW zb7 (pv 2) zi) zc)) (zbQ (own:=[("period",5)]) (by rfl)) (fun _ _ _ _ _=>(zag (i:=5) zgA.nd rfl (Or.inl rfl))) (fun _ _ _ _ _=>zcq) (fun _ _ _ _ _=>(zp (zp (zg (pv 0) rfl) T.zO T.za0 z9 hr T.za7 .nil zj (za (pv 5) zc)) T.zz T.zcn za8 hr T.zcz .nil zj (za (pv 1) zc)))) (zQl (zh (zo (zw zch hr rfl T.zec T.zdc.kp T.zff .nil zj (za (zL (za (zaN zaC (by rfl) T.zcw PySem.boot_len (za (pv 4) zc)) zc)) (za (pv 4) zc))))) ?_)));intros
 have ask0:Sp.ask m (.path a t)=gate (decide (0<=a/\a<(m.plan.accounts:Int))&&decide (0<=t/\t<=20)) true m t.toNat fun ps s=>Sp.za4 [((t.toNat+1:Nat):Int)] ((List.range (t.toNat+1)).map fun i=>Sp.amt ps m.plan a.toNat i):=by
  unfold Sp.ask
  exact zhZ fun ha=>zlk t fun t ps s=>Sp.za4 [((t+1:Nat):Int)] ((List.range (t+1)).map fun i=>Sp.amt ps m.plan a.toNat i)
 rw[ask0]at k
 have BA':=BA
 refine zHd ?_;intro
 obtain⟨d0,pa0,b0,r0,cv0,n0,N0,bs0,qs0,ras0,BP0,_⟩:=BA
 refine⟨_,rfl,bk,d0,_,rfl,BP0.ins,za6 _ _,_,rfl,bk,d0,_,rfl,BP0.ins,za6 _ _,_,rfl,bk,m,a,rfl,BA',_,rfl,?_⟩
 refine zeg (c2:=decide (0<=t/\t<=20)) (fun R hR=>⟨_,rfl,t,rfl,hR⟩) ?_
 refine⟨_,rfl,bk,m,_,true,t,rfl,BA',fun e=>oDt (bAt _ _ |>.mp e).2,fun x hg H' l BA2 kk hl=>?_,fun ps u e0 e1 ev ep hg H' l BR kk hl=>?_⟩
 ·exact⟨_,rfl,_,.inl ⟨_,SqL.of hl,rfl⟩,zaY ⟨_,rfl,k H' l BA2 kk (by rw[hg];exact hl)⟩⟩
 ·refine⟨_,rfl,_,.inl ⟨_,SqL.of hl,rfl⟩,zaT ?_⟩
  have ha:0<=a/\a<(m.plan.accounts:Int):=oDt (bAt _ _ |>.mp e0).1
  have ht:0<=t/\t<=20:=oDt (bAt _ _ |>.mp e0).2
  have et:t=((t.toNat:Nat):Int):=by omega
  have ea:a=((a.toNat:Nat):Int):=by omega
  rw[hg]at k
  refine⟨_,rfl,_,_,rfl,rfl,t+1,rfl,by omega,by omega,fun D hD=>?_⟩
  rw[show(t+1).toNat=t.toNat+1 by omega]
  refine zi5 (QInv _ D ((List.range (t.toNat+1)).map fun i=>Sp.amt ps m.plan a.toNat i)) (QInv.start hD) ?_ ?_
  ·intro i H2 hi I
   have BR2:=(BR.le (show i<=t.toNat by omega)).same I.1
   refine zHd ?_;intro
   obtain⟨v,ev2⟩:=BR2.run
   obtain⟨d,pa,b,r,c,rs,ss,ff,n,N,sa,qas,x,r1,l1,as,sh,lines,R⟩:=BR2.rdy ev2
   obtain⟨dc,hc⟩:=R.crs
   obtain⟨dx2,c2,hx2,_⟩:=R.S.ins
   have hacc:=R.acc
   have eam:Sp.amt ps m.plan a.toNat i=(Sp.dget v a.toNat).1:=by unfold Sp.amt;rw[ev2]
   refine⟨rfl,_,rfl,bk,_,d,_,_,rfl,R.ins,T.zB,T.z8,zaD _ _,c,dc,_,rfl,hc,zaz _ _ _ _,_,rfl,c,dc,r,rs,ss,ff,sa,i,x,(by rw[Int.zero_add];rfl),hc,R.sheets,R.at_,?_⟩
   refine⟨x,dx2,_,rfl,hx2,zbJ _ _ _ _,_,rfl,?_⟩
   rw[ea]
   refine R.amountIn (E:=E0) (by omega) fun p H3 s3 _ hp3=>I.step hD (zcm _ hi) (by omega) s3 ?_
   rw[eam]
   exact hp3
  ·intro H2 I
   refine zHd ?_;intro
   obtain⟨s2,tas,h1,h2,h3⟩:=I
   have hln:((List.range (t.toNat+1)).map fun i=>Sp.amt ps m.plan a.toNat i).length=t.toNat+1:=by rw[lmm,List.length_range]
   rw[tOl (by omega)]at h3
   refine⟨_,rfl,D,_,rfl,.inl (SqL.of h1),zbC,fun z hz=>?_⟩
   rw[lmm,h2]
   have s5:=zl (o:=.lst [.int ((t.toNat+1:Nat):Int)]) hz
   refine⟨_,rfl,z,D,[((t.toNat+1:Nat):Int)],tas,_,rfl,zd,s5 _ _ h1,h3.same s5,(by show 1<=100;decide),by omega,fun H3 l3 s3 hl4 hl5=>?_⟩
   have s4:zq H' H3:=s2.trans (s5.trans s3)
   exact k H3 l3 (BR.at_.same s4) (kk.trans (zS.same s4)) hl5
theorem zz1{N W:Nat}{ps:List Rat}{sh:Sh}{u:List Sp.zt}(o:zdX N W ps sh u):zn sh.1 (rowHd sh).sum=Sp.sumR (u.map (·.1)):=by
 rw[zqr,zwT]
 congr 1
 refine List.ext_getElem? fun i=>?_
 unfold rowHd
 rw[gEm,gEm,gEm]
 by_cases h:i<u.length
 ·have h2:i<sh.2.length:=by rw[o.rows];exact h
  rw[gge h,gge h2]
  have R:=o.rep i _ (gge h2)
  have e:Sp.dget u i=u[i]:=by unfold Sp.dget;rw[gDm,gge h];rfl
  have:=R.am
  rw[e]at this
  exact congrArg some this
 ·have h2:=o.rows
  rw[List.getElem?_eq_none (by omega:u.length<=i),List.getElem?_eq_none (by omega:sh.2.length<=i)]
  rfl
inductive zs8(A:Ad)(vs:List V)(H:Hp)(Q:VK)(E:XK):Prop|I:∀(bk:Addr) (m:Sp.M) (t:Int),vs=[.ref bk,.int t]->zaE A H bk m->zdH A H bk m (Sp.ask m (.total t)) Q->zs8 A vs H Q E
theorem zs9(B:Bs P base)(T:Txt K mg A):zH P w K mg base CX0 50 A.zjJ A.ziv ["self","t"] (zs8 A):=by
 have zah:=zbm (w:=w) B T
 have zch:=(@zeI P w K mg base A T).up 49
 have zaK:=(@zb2 P w K mg base A T).up 49
 have z9:=(@zbl P w K mg base A T).up 49
 have ztv:=(zrr (w:=w) B T).up 49
 refine T.zmQ.ok zmC (fun _ _ _ _ h=>?_) fun _ _ _ s H vs Q E hr h=>?_
 ·obtain⟨bk,m,t,rfl,_⟩:=h
  rfl
 obtain⟨bk,m,t,rfl,BA,k⟩:=h
 refine zQa (qD 2 zmC.nd (zp (pv 0) T.zB T.zbn zah hr T.zbA .nil zj (za (zw zaK hr rfl T.zb3 T.zbF.kp T.zcs .nil zj (za (pv 1) zc)) (za zeO (za (pv 1) zc))))) (zQc (zY (zaG (pv 2) (fun _=>rfl)) (zh (zo (pv 2))) zJ) (zQl (zh (zo (zw zch hr rfl T.zec T.zdc.kp T.zff .nil zj (za (zL (za zi zc)) (za (zL (za (zi4 (zp (zg (pv 0) rfl) T.zO T.za0 z9 hr T.za7 .nil zj (za (pv 1) zc)) T.zz T.zrL ztv hr T.ztp .nil zj) zc)) zc))))) ?_));intros
 have ask0:Sp.ask m (.total t)=gate (decide (0<=t/\t<=20)) true m t.toNat fun ps s=>Sp.za4 [1] [Sp.sumR (s.map (·.1))]:=by have:=zlk (m:=m) t fun _ _ s=>Sp.za4 [1] [Sp.sumR (s.map (·.1))];exact this
 rw[ask0]at k
 have BA':=BA
 refine zHd ?_;intro
 obtain⟨d0,pa0,b0,r0,cv0,n0,N0,bs0,qs0,ras0,BP0,_⟩:=BA
 refine⟨_,rfl,bk,d0,_,rfl,BP0.ins,za6 _ _,_,rfl,t,rfl,_,rfl,bk,m,decide (0<=t/\t<=20),true,t,rfl,BA',fun e=>oDt e,fun x hg H' l BA2 kk hl=>?_,fun ps u e0 e1 ev ep hg H' l BR kk hl=>?_⟩
 ·exact⟨_,rfl,_,.inl ⟨_,SqL.of hl,rfl⟩,zaY ⟨_,rfl,k H' l BA2 kk (by rw[hg];exact hl)⟩⟩
 ·refine⟨_,rfl,_,.inl ⟨_,SqL.of hl,rfl⟩,zaT ?_⟩
  have ht:0<=t/\t<=20:=oDt e0
  have et:t=((t.toNat:Nat):Int):=by omega
  refine zHd ?_;intro
  obtain⟨d,pa,b,r,c,rs,ss,ff,n,N,sa,qas,x,r1,l1,as,sh,lines,R⟩:=BR.rdy ep
  obtain⟨dp,hp⟩:=R.plan
  obtain⟨dc,hc⟩:=R.crs
  have n6:=R.n6
  have N8:=R.N8
  rw[hg]at k
  refine⟨zbC,fun z hz=>?_⟩
  have s1:=zl (o:=.lst [.int 1]) hz
  have R1:=R.same s1
  refine zHd ?_;intro
  obtain⟨dc1,hc1⟩:=R1.crs
  obtain⟨dx1,c1,hx1,_⟩:=R1.S.ins
  have hul:=R.ul
  have t20:=R.t20
  refine⟨_,rfl,bk,_,d,_,_,rfl,R1.ins,T.zB,T.z8,zaD _ _,c,dc1,_,rfl,hc1,zaz _ _ _ _,_,rfl,c,dc1,r,rs,ss,ff,sa,t.toNat,x,(by rw[<-et];rfl),hc1,R1.sheets,R1.at_,?_⟩
  refine⟨x,dx1,_,rfl,hx1,zbJ _ _ _ _,rs,10*t.toNat+1,x,r1,l1,as,sh,lines,rfl,R1.S,by rw[R.ok.rows];omega,by omega,nLt R.sz.sc (by decide),fun p H3 s3 hp3 hp4=>?_⟩
  rw[zz1 R.ok]at hp4
  refine⟨zbC,fun l4 hl4=>?_⟩
  have s5:=zl (o:=.lst [.ref p]) hl4
  refine⟨z,l4,[1],[p],[_],rfl,s5 _ _ (s3 _ _ zd),zd,.cons (s5 _ _ hp4) .nil,(by show 1<=100;decide),(by show 1<=100;decide),fun H6 l6 s6 hl7 hl8=>?_⟩
  have s7:zq H' H6:=s1.trans (s3.trans (s5.trans s6))
  exact k H6 l6 (BR.at_.same s7) (kk.trans (zS.same s7)) hl8
theorem zeU(N:Nat)(s:List Sp.zt):(s.flatMap (Sp.zaR N)).length=s.length*N:=by
 induction s with
 | nil=>rw[List.flatMap_nil,List.length_nil,List.length_nil,Nat.zero_mul]
 | cons x s ih=>
  rw[List.flatMap_cons,lEa,ih,List.length_cons,Nat.succ_mul]
  unfold Sp.zaR
  rw[lmm,List.length_range]
  omega
theorem zam.append{H:Hp}{bs:List Addr}{rs:List Rat}(h:zam H bs rs) :∀{as:List Addr} {qs:List Rat},zam H as qs->zam H (as++bs) (qs++rs)
 | _,_,.nil=>h
 | _,_,.cons g t=>.cons g (zam.append h t)
inductive zta(A:Ad)(vs:List V)(H:Hp)(Q:VK)(E:XK):Prop|I:∀(bk:Addr) (m:Sp.M) (t:Int),vs=[.ref bk,.int t]->zaE A H bk m->zdH A H bk m (Sp.ask m (.table t)) Q->zta A vs H Q E
theorem ztb(B:Bs P base)(T:Txt K mg A):zH P w K mg base CX0 50 A.zjG A.zit ["self","t"] (zta A):=by
 have zah:=zbm (w:=w) B T
 have zch:=(@zeI P w K mg base A T).up 49
 have zaK:=(@zb2 P w K mg base A T).up 49
 have z9:=(@zbl P w K mg base A T).up 49
 have zcX:=(zfo (w:=w) B T).up 49
 refine T.zmO.ok zcT (fun _ _ _ _ h=>?_) fun _ _ _ s H vs Q E hr h=>?_
 ·obtain⟨bk,m,t,rfl,_⟩:=h
  rfl
 obtain⟨bk,m,t,rfl,BA,k⟩:=h
 refine zQa (qD 2 zcT.nd (zp (pv 0) T.zB T.zbn zah hr T.zbA .nil zj (za (zw zaK hr rfl T.zb3 T.zbF.kp T.zcs .nil zj (za (pv 1) zc)) (za zeO (za (pv 1) zc))))) (zQc (zY (zaG (pv 2) (fun _=>rfl)) (zh (zo (pv 2))) zJ) (zQc (zC (i:=3) zcT.nd rfl (Or.inr rfl) (zp (zg (pv 0) rfl) T.zO T.za0 z9 hr T.za7 .nil zj (za (pv 1) zc))) (zQc (qD 4 zcT.nd (zL zc)) (zQc (zde PassesOwn.never rfl (zc3 rfl T.zcW (za (zg (zg (pv 0) rfl) rfl) zc)) (zag (i:=5) zcT.nd rfl (Or.inr rfl)) (zh (zay (zeh PySem.F.plainAttrs_list PySem.F.slot_list_extend PySem.F.type_list_extend zfh (pv 4) (za (zfR (te:=tMeth A.zR "slope" (zhc A) [] E0 (zbd 3) (zc0 (zbd 5) (zc0 (zbd 6) zdf))) rfl zcT.nd (zc3 rfl T.zcW (za (zg (zg (pv 0) rfl) rfl) zc)) (zbQ (own:=[("p",6)]) (by rfl)) (fun _ _ _ _ _=>(zag (i:=6) zcT.nd rfl (Or.inl rfl))) (fun _ _ _ _ _=>zcq) (fun _ _ _ _ _=>(zp (pv 3) T.zz T.zfp zcX hr T.zfZ .nil zj (za (pv 5) (za (pv 6) zc))))) zc))))) (zQl (zh (zo (zw zch hr rfl T.zec T.zdc.kp T.zff .nil zj (za (zL (za (zg (zg (pv 0) rfl) rfl) (za (zg (zg (pv 0) rfl) rfl) zc))) (za (pv 4) zc))))) ?_)))));intros
 have ask0:Sp.ask m (.table t)=gate (decide (0<=t/\t<=20)) true m t.toNat fun ps s=>Sp.za4 [(m.plan.accounts:Int),(m.plan.params:Int)] (s.flatMap (Sp.zaR m.plan.params)):=by
  unfold Sp.ask
  exact zlk t fun _ _ s=>Sp.za4 [(m.plan.accounts:Int),(m.plan.params:Int)] (s.flatMap (Sp.zaR m.plan.params))
 rw[ask0]at k
 have BA':=BA
 refine zHd ?_;intro
 obtain⟨d0,pa0,b0,r0,cv0,n0,N0,bs0,qs0,ras0,BP0,_⟩:=BA
 refine⟨_,rfl,bk,d0,_,rfl,BP0.ins,za6 _ _,_,rfl,t,rfl,_,rfl,bk,m,decide (0<=t/\t<=20),true,t,rfl,BA',fun e=>oDt e,fun x hg H' l BA2 kk hl=>?_,fun ps u e0 e1 ev ep hg H' l BR kk hl=>?_⟩
 ·exact⟨_,rfl,_,.inl ⟨_,SqL.of hl,rfl⟩,zaY ⟨_,rfl,k H' l BA2 kk (by rw[hg];exact hl)⟩⟩
 ·refine⟨_,rfl,_,.inl ⟨_,SqL.of hl,rfl⟩,zaT ?_⟩
  have ht:0<=t/\t<=20:=oDt e0
  have et:t=((t.toNat:Nat):Int):=by omega
  refine zHd ?_;intro
  obtain⟨d,pa,b,r,c,rs,ss,ff,n,N,sa,qas,x,r1,l1,as,sh,lines,R⟩:=BR.rdy ep
  obtain⟨dp,hp⟩:=R.plan
  obtain⟨dc,hc⟩:=R.crs
  have n6:=R.n6
  have N8:=R.N8
  have hul:=R.ul
  rw[hg,R.acc,R.par]at k
  refine⟨_,rfl,bk,_,d,_,_,rfl,R.ins,T.zB,T.z8,zaD _ _,c,dc,_,rfl,hc,zaz _ _ _ _,_,rfl,c,dc,r,rs,ss,ff,sa,t.toNat,x,(by rw[<-et];rfl),hc,R.sheets,R.at_,?_⟩
  refine⟨Nat.zero_le _,fun z hz=>?_⟩
  have s1:zq H' (upd H' z (.lst [])):=zl hz
  have R1:=R.same s1
  refine zHd ?_;intro
  obtain⟨dp1,hp1⟩:=R1.plan
  refine⟨_,rfl,bk,_,d,_,_,rfl,R1.ins,T.zB,T.zai,zaB _ _,pa,_,dp1,_,_,rfl,hp1,T.zaI,T.zbL,zby _ _ _ _,(n:Int),rfl,by omega,by omega,?_⟩
  rw[Int.toNat_natCast]
  refine zhJ (fun i σ H2=>zq H' H2/\∃(v5 v6:Option V) (tas:List Addr),σ = [some (.ref bk),some (.int t),some (.ref l),some (.ref x),some (.ref z),v5,v6]/\H2 z=some (.lst (tas.map V.ref))/\zam H2 tas ((u.take i).flatMap (Sp.zaR N)))
   ⟨s1,none,none,[],rfl,zd,.nil⟩ ?_ ?_
  ·rintro i σ H2 hi ⟨s2,v5,v6,tas,rfl,hz2,PA⟩
   have hpl:=PA.length
   rw[zeU,List.length_take]at hpl
   have hle:(min i u.length)*N<=6*8:=Nat.mul_le_mul (by omega) N8
   have R2:=R.same s2
   refine zHd ?_;intro
   obtain⟨dp2,hp2⟩:=R2.plan
   refine⟨_,rfl,.inl ⟨rfl,_,SqL.of hz2⟩,_,rfl,bk,_,d,_,_,rfl,R2.ins,T.zB,T.zai,zaB _ _,pa,_,dp2,_,_,rfl,hp2,T.zaI,T.zac,zaw _ _ _ _,(N:Int),rfl,by omega,by omega,fun D hD=>?_⟩
   rw[Int.toNat_natCast]
   refine zi5 (QInv _ D (Sp.zaR N (Sp.dget u i))) (QInv.start hD) ?_ ?_
   ·intro j H3 hj I
    have R3:=R2.same I.1
    refine zHd ?_;intro
    obtain⟨dx3,c3,hx3,_⟩:=R3.S.ins
    refine⟨rfl,_,rfl,x,dx3,_,rfl,hx3,zbJ _ _ _ _,_,rfl,_,rfl,?_⟩
    rw[Int.zero_add,Int.zero_add]
    exact R3.slopeIn (E:=E0) hi hj fun p H4 s4 _ hp4=>I.step hD (zcm _ hj) (by omega) s4 hp4
   ·intro H3 I
    refine zHd ?_;intro
    obtain⟨s3,as3,h1,h2,h3⟩:=I
    have hln:(Sp.zaR N (Sp.dget u i)).length=N:=by unfold Sp.zaR;rw[lmm,List.length_range]
    rw[tOl (by omega)]at h3
    have hz3:=s3 _ _ hz2
    refine⟨z,D,_,_,rfl,rfl,hz3,.inl h1,?_,?_⟩
    ·rw[lmm,lmm,sizeLine_eq]
     omega
    ·refine⟨fun c' o' hc'=>by rw[zf (zk hc' hz)];exact s3 _ _ (s2 _ _ hc'),_,_,tas++as3,rfl,by rw[zd,lMa],?_⟩
     have hu:u[i]? = some (Sp.dget u i):=by
      unfold Sp.dget
      rw[gDm,gge (by omega)]
      rfl
     rw[Pr.zab hu,List.flatMap_append,show [Sp.dget u i].flatMap (Sp.zaR N)=Sp.zaR N (Sp.dget u i) by rw[List.flatMap_cons,List.flatMap_nil,List.append_nil]]
     exact(zam.append h3 (PA.same s3)).upd_lst hz3
  ·rintro σ H2 ⟨s2,v5,v6,tas,rfl,hz2,PA⟩
   rw[tOl (by omega)]at PA
   have hpl:=PA.length
   rw[zeU]at hpl
   have hle:u.length*N<=6*8:=Nat.mul_le_mul (by omega) N8
   have R2:=R.same s2
   refine zHd ?_;intro
   obtain⟨dp2,hp2⟩:=R2.plan
   refine⟨_,rfl,bk,_,d,_,_,rfl,R2.ins,T.zB,T.zai,zaB _ _,pa,_,dp2,_,_,rfl,hp2,T.zaI,T.zbL,zby _ _ _ _,_,rfl,bk,_,d,_,_,rfl,R2.ins,T.zB,T.zai,zaB _ _,pa,_,dp2,_,_,rfl,hp2,T.zaI,T.zac,zaw _ _ _ _,szl2,fun y hy=>?_⟩
   have s3:=zl (o:=.lst [.int (n:Int),.int (N:Int)]) hy
   refine⟨_,rfl,y,z,[(n:Int),(N:Int)],tas,_,rfl,zd,s3 _ _ hz2,PA.same s3,(by show 2<=100;decide),by rw[zeU];omega,fun H4 l4 s4 hl4 hl5=>?_⟩
   have s5:zq H' H4:=s2.trans (s3.trans s4)
   exact k H4 l4 (BR.at_.same s5) (kk.trans (zS.same s5)) hl5
inductive zqI(A:Ad)(vs:List V)(H:Hp)(Q:VK)(E:XK):Prop|I:∀(bk:Addr) (m:Sp.M) (a p t:Int),vs=[.ref bk,.int a,.int p,.int t]->zaE A H bk m->zdH A H bk m (Sp.ask m (.elastic a p t)) Q->zqI A vs H Q E
theorem zqJ(B:Bs P base)(T:Txt K mg A):zH P w K mg base CX0 50 A.zho A.zgN ["self","a","p","t"] (zqI A):=by
 have zah:=zbm (w:=w) B T
 have zch:=(@zeI P w K mg base A T).up 49
 have zaK:=(@zb2 P w K mg base A T).up 49
 have zaQ:=(@zce P w K mg base A T).up 49
 have zeN:=(@zgF P w K mg base A T).up 49
 have z9:=(@zbl P w K mg base A T).up 49
 have za8:=(zcQ (w:=w) B T).up 49
 have zcX:=(zfo (w:=w) B T).up 49
 have zvi:=(zsZ (w:=w) B T).up 49
 have zn6:=(zqB (w:=w) B T).up 49
 refine T.zkg.ok zdu (fun _ _ _ _ h=>?_) fun _ _ _ s H vs Q E hr h=>?_
 ·obtain⟨bk,m,a,p,t,rfl,_⟩:=h
  rfl
 obtain⟨bk,m,a,p,t,rfl,BA,k⟩:=h
 refine zQa (qD 4 zdu.nd (zp (pv 0) T.zB T.zbn zah hr T.zbA .nil zj (za (zfG (zp (pv 0) T.zB T.zcg zaQ hr T.zcr .nil zj (za (pv 1) zc)) (zfG (zp (pv 0) T.zB T.zgS zeN hr T.zg5 .nil zj (za (pv 2) zc)) (zi3 (zw zaK hr rfl T.zb3 T.zbF.kp T.zcs .nil zj (za (pv 3) zc))))) (za zeO (za (pv 3) zc))))) (zQc (zY (zaG (pv 4) (fun _=>rfl)) (zh (zo (pv 4))) zJ) (zQc (qD 5 zdu.nd (zp (zg (pv 0) rfl) T.zO T.za0 z9 hr T.za7 .nil zj (za (pv 3) zc))) (zQc (qD 6 zdu.nd (zp (pv 5) T.zz T.zcn za8 hr T.zcz .nil zj (za (pv 1) zc))) (zQc (zY (z5 zb0 (zu z6 (pv 6) zi (fun _ _=>rfl)) zi (nomark _)) (zh (zo (zL (za zi zc)))) zJ) (zQc (qD 7 zdu.nd (zw zvi hr rfl T.zth T.ziA.kp T.zva .nil zj (za (zp (pv 5) T.zz T.zfp zcX hr T.zfZ .nil zj (za (pv 1) (za (pv 2) zc))) (za (zu zA (zg (zg (pv 0) rfl) rfl) (pv 2) (fun _ _=>rfl)) zc)))) (zQl (zh (zo (zw zch hr rfl T.zec T.zdc.kp T.zff .nil zj (za (zL (za zi zc)) (za (zL (za (zw zn6 hr rfl T.zqQ T.ziU.kp T.zsQ .nil zj (za (pv 7) (za (pv 6) zc))) zc)) zc))))) ?_))))));intros
 have ask0:Sp.ask m (.elastic a p t)=gate (decide (0<=a/\a<(m.plan.accounts:Int))&&(decide (0<=p/\p<(m.plan.params:Int))&&decide (0<=t/\t<=20))) true m t.toNat fun ps s=>Sp.zf1 ps a.toNat p.toNat s:=by
  unfold Sp.ask
  exact zhZ fun _=>zhZ fun _=>zlk t fun _ ps s=>Sp.zf1 ps a.toNat p.toNat s
 rw[ask0]at k
 have BA':=BA
 refine zHd ?_;intro
 obtain⟨d0,pa0,b0,r0,cv0,n0,N0,bs0,qs0,ras0,BP0,_⟩:=BA
 refine⟨_,rfl,bk,d0,_,rfl,BP0.ins,za6 _ _,_,rfl,bk,d0,_,rfl,BP0.ins,za6 _ _,_,rfl,bk,m,a,rfl,BA',_,rfl,?_⟩
 refine zeg (c2:=decide (0<=p/\p<(m.plan.params:Int))&&decide (0<=t/\t<=20)) (fun R hR=>⟨_,rfl,bk,d0,_,rfl,BP0.ins,za6 _ _,_,rfl,bk,m,p,rfl,BA',_,rfl,zeg (c2:=decide (0<=t/\t<=20)) (fun R2 hR2=>⟨_,rfl,t,rfl,hR2⟩) hR⟩) ?_
 refine⟨_,rfl,bk,m,_,true,t,rfl,BA',fun e=>oDt (bAt _ _ |>.mp (bAt _ _ |>.mp e).2).2,fun x hg H' l BA2 kk hl=>?_,fun ps u e0 e1 ev ep hg H' l BR kk hl=>?_⟩
 ·exact⟨_,rfl,_,.inl ⟨_,SqL.of hl,rfl⟩,zaY ⟨_,rfl,k H' l BA2 kk (by rw[hg];exact hl)⟩⟩
 ·refine⟨_,rfl,_,.inl ⟨_,SqL.of hl,rfl⟩,zaT ?_⟩
  have e2:=bAt _ _ |>.mp e0
  have e3:=bAt _ _ |>.mp e2.2
  have ha:0<=a/\a<(m.plan.accounts:Int):=oDt e2.1
  have hpp:0<=p/\p<(m.plan.params:Int):=oDt e3.1
  have ht:0<=t/\t<=20:=oDt e3.2
  have et:t=((t.toNat:Nat):Int):=by omega
  have ea:a=((a.toNat:Nat):Int):=by omega
  have epp:p=((p.toNat:Nat):Int):=by omega
  obtain⟨d,pa,b,r,c,rs,ss,ff,n,N,sa,qas,x,r1,l1,as,sh,lines,R⟩:=BR.rdy ep
  obtain⟨dp,hp⟩:=R.plan
  obtain⟨dc,hc⟩:=R.crs
  have n6:=R.n6
  have N8:=R.N8
  have hacc:=R.acc
  have hpar:=R.par
  have hal:a.toNat<n:=by omega
  have hpl:p.toNat<N:=by omega
  rw[hg]at k
  unfold Sp.zf1 at k
  refine⟨_,rfl,bk,_,d,_,_,rfl,R.ins,T.zB,T.z8,zaD _ _,c,dc,_,rfl,hc,zaz _ _ _ _,_,rfl,c,dc,r,rs,ss,ff,sa,t.toNat,x,(by rw[<-et];rfl),hc,R.sheets,R.at_,?_⟩
  refine zHd ?_;intro
  obtain⟨dx,c1,hx,_⟩:=R.S.ins
  refine⟨_,rfl,x,dx,_,rfl,hx,zbJ _ _ _ _,_,rfl,?_⟩
  have am :∀(Q2:VK),QtQ H' (Sp.dget u a.toNat).1 Q2->zc6 A [.ref x,.int a] H' Q2 E0:=fun Q2 k2=>by rw[ea];exact R.amountIn (E:=E0) hal k2
  refine am _ fun q H2 s2 hq hq2=>?_
  refine⟨_,rfl,q,_,_,_,rfl,rfl,SqT.of hq2,rfl,rfl,_,rfl,?_⟩
  by_cases hz:(Sp.dget u a.toNat).1=0
  ·have hz2:(Sp.dget u a.toNat).1.num=0:=by rw[hz];rfl
   rw[show decide (V.int (Sp.dget u a.toNat).1.num=V.int 0)=true from decide_eq_true (by rw[hz2])]
   rw[if_pos hz]at k
   refine zaY ⟨zbC,fun l2 hl2=>?_⟩
   have s3:zq H' (upd H2 l2 (.lst [.int 0])):=s2.trans (zl hl2)
   exact k _ l2 (BR.at_.same s3) (kk.trans (zS.same s3)) zd
  ·have hz2:(Sp.dget u a.toNat).1.num≠0:=fun z=>hz (Rat.num_eq_zero.mp z)
   rw[show decide (V.int (Sp.dget u a.toNat).1.num=V.int 0)=false from decide_eq_false fun z=>hz2 (V.int.inj z)]
   rw[if_neg hz]at k
   refine zaT ?_
   have R2:=R.same s2
   refine zHd ?_;intro
   obtain⟨dx2,c2,hx2,_⟩:=R2.S.ins
   obtain⟨ra,hra,hra2,_,hwp⟩:=R2.ratIx hpl
   have wA:=R.wtA hal
   have wS:=R.wtS hal hpl
   refine⟨_,rfl,x,dx2,_,rfl,hx2,zbJ _ _ _ _,_,rfl,_,rfl,?_⟩
   have sl :∀(Q2:VK),QtQ H2 ((Sp.dget u a.toNat).2 p.toNat) Q2->zhc A [.ref x,.int a,.int p] H2 Q2 E0:=fun Q2 k2=>by rw[ea,epp];exact R2.slopeIn (E:=E0) hal hpl k2
   refine sl _ fun q3 H3 s3 hq3 hq4=>?_
   have R3:=R2.same s3
   refine zHd ?_;intro
   obtain⟨dc3,hc3⟩:=R3.crs
   refine⟨_,rfl,bk,_,d,_,_,rfl,R3.ins,T.zB,T.z8,zaD _ _,c,_,dc3,_,_,rfl,hc3,T.zO,T.zb6,zdb _ _ _ _,_,rfl,rs,_,_,_,rfl,rfl,SqL.of R3.vals,zei epp (by rw[gEm,hra];rfl),?_⟩
   dsimp only[zdf]
   refine twoIn (C:=fun _=>True) (f:=fun x y=>x*y) hq4 (s3 _ _ hra2) trivial (by omega) (by omega) fun q5 hq5=>?_
   have s5:=zl (o:=qT ((Sp.dget u a.toNat).2 p.toNat*Sp.get ps p.toNat)) hq5
   have wM:=zBT ((Sp.dget u a.toNat).2 p.toNat) (Sp.get ps p.toNat)
   refine⟨zbC,fun l6 hl6=>?_⟩
   have s6:=zl (o:=.lst [.int 1]) hl6
   refine⟨_,rfl,_,rfl,?_⟩
   dsimp only[zdf]
   refine twoIn (C:=fun m=>m≠0) (f:=fun x y=>x/y) (s6 _ _ zd) (s6 _ _ (s5 _ _ (s3 _ _ hq2))) hz2 (by omega) (by omega) fun q7 hq7=>?_
   have s7:=zl (o:=qT ((Sp.dget u a.toNat).2 p.toNat*Sp.get ps p.toNat/(Sp.dget u a.toNat).1)) hq7
   refine⟨zbC,fun l8 hl8=>?_⟩
   have s8:=zl (o:=.lst [.ref q7]) hl8
   refine⟨l6,l8,[1],[q7],[_],rfl,s8 _ _ (s7 _ _ zd),zd,.cons (s8 _ _ zd) .nil,(by show 1<=100;decide),(by show 1<=100;decide),fun H9 l9 s9 hl10 hl11=>?_⟩
   rw[Rat.mul_comm (Sp.get ps p.toNat)]at k
   have s11:zq H' H9:=s2.trans (s3.trans (s5.trans (s6.trans (s7.trans (s8.trans s9)))))
   exact k H9 l9 (BR.at_.same s11) (kk.trans (zS.same s11)) hl11
theorem zh0{n:Nat}{l:List Int}{rs:List Rat}(h:Sp.zaF n l=some rs)(hn:Sp.Nums l):zfM n rs:=by
 have S:=Sp.zkq h hn
 exact⟨S.len,fun q hq=>nLt (Sp.zoT (S.small q hq)) (by decide)⟩
theorem zuF{n:Nat}{qs:List Rat}(h:zfM n qs) :∀p,p∈qs.map ndQ->0<p.2/\bI p.2<=1500/\bI p.1<=1500:=fun p hp=>by
 rw[List.mem_map]at hp
 obtain⟨q,hq,rfl⟩:=hp
 obtain⟨b1,b2⟩:=zeY (h.wt q hq)
 exact⟨den0 q,b2,b1⟩
theorem zz2{N:Nat}{ps:List Rat}{sh:Sh}{u:List Sp.zt}(o:zdX N (N+1) ps sh u){w:List Rat}(hw:w.length=u.length){i:Nat}(hi:i<N) :
  sumQ (((zfW sh (i+1)).zip (w.map ndQ)).map (wRat (sh.1*rsv (Sp.get ps i).num)))=((u.zip w).map fun x=>x.2*x.1.2 i).foldr (· + ·) 0:=by
 show sumQ _=sumQ _
 congr 1
 refine List.ext_getElem? fun j=>?_
 rw[gEm,gEm]
 by_cases h:j<u.length
 ·have h2:j<sh.2.length:=by rw[o.rows];exact h
  have h3:j<w.length:=by omega
  have z1:((zfW sh (i+1)).zip (w.map ndQ))[j]? = some (gI (zD sh.2 j) (i+1),ndQ w[j]):=by
   rw[List.getElem?_zip_eq_some]
   refine⟨?_,?_⟩
   ·unfold zfW
    rw[gEm,zne h2]
    rfl
   ·rw[gEm,gge h3]
    rfl
  have z2:(u.zip w)[j]? = some (Sp.dget u j,w[j]):=by
   rw[List.getElem?_zip_eq_some]
   refine⟨?_,gge h3⟩
   unfold Sp.dget
   rw[gDm,gge h]
   rfl
  rw[z1,z2]
  have R:=(o.row h).sl (by omega) i
  show some (zn _ _*zn ((w[j].den:Int)) w[j].num)=some (w[j]*(Sp.dget u j).2 i)
  rw[qq,Rat.mul_comm,<-R]
  rfl
 ·have h2:=o.rows
  rw[List.getElem?_eq_none (by rw[List.length_zip];unfold zfW;rw[lmm];omega),List.getElem?_eq_none (by rw[List.length_zip];omega)]
  rfl
inductive zuG(K:Fg)(A:Ad)(vs:List V)(H:Hp)(Q:VK)(E:XK):Prop|I:∀(bk:Addr) (m:Sp.M) (t:Int) (nl:Addr) (ns:List Int),vs=[.ref bk,.int t,.ref nl]->zaE A H bk m->SqL K H nl (ns.map V.int)->ns.length<=1000->Sp.Nums ns->zdH A H bk m (Sp.ask m (.pull t ns)) Q->zuG K A vs H Q E
theorem zuH(B:Bs P base)(T:Txt K mg A):zH P w K mg base CX0 50 A.zkJ A.zjH ["self","t","numbers"] (zuG K A):=by
 have zb4:=(zd0 (w:=w) B T).up 49
 have zah:=zbm (w:=w) B T
 have zch:=(@zeI P w K mg base A T).up 49
 have zaK:=(@zb2 P w K mg base A T).up 49
 have z9:=(@zbl P w K mg base A T).up 49
 have zr1:=(zqG (w:=w) B T).up 49
 refine T.znW.ok zdZ (fun _ _ _ _ h=>?_) fun _ _ _ s H vs Q E hr h=>?_
 ·obtain⟨bk,m,t,nl,ns,rfl,_⟩:=h
  rfl
 obtain⟨bk,m,t,nl,ns,rfl,BA,hnl,hz,hnum,k⟩:=h
 refine zQa (zC (i:=3) zdZ.nd rfl (Or.inr rfl) (zw zb4 hr rfl T.zea T.zcx.kp T.zeC .nil zj (za (pv 2) (za (zg (zg (pv 0) rfl) rfl) zc)))) (zQc (qD 4 zdZ.nd (zp (pv 0) T.zB T.zbn zah hr T.zbA .nil zj (za (zw zaK hr rfl T.zb3 T.zbF.kp T.zcs .nil zj (za (pv 1) zc)) (za (zp0 (zoa (pv 3))) (za (pv 1) zc))))) (zQc (zY (zaG (pv 4) (fun _=>rfl)) (zh (zo (pv 4))) zJ) (zQc (zC (i:=5) zdZ.nd rfl (Or.inr rfl) (zp (zg (pv 0) rfl) T.zO T.za0 z9 hr T.za7 .nil zj (za (pv 1) zc))) (zQc (zlK (te:=tMeth A.zR "pulled" (zsK K A) [] E0 (zbd 5) (zc0 (zbd 7) (zc0 (zbd 3) zdf))) rfl zdZ.nd (i:=6) rfl rfl rfl (zc3 rfl T.zcW (za (zg (zg (pv 0) rfl) rfl) zc)) (zbQ (own:=[("p",7)]) (by rfl)) (fun _ _ _ _ _=>(zag (i:=7) zdZ.nd rfl (Or.inl rfl))) (fun _ _ _ _ _=>zcq) (fun _ _ _ _ _=>(zp (pv 5) T.zz T.zqR zr1 hr T.zrU .nil zj (za (pv 7) (za (pv 3) zc))))) (zQl (zh (zo (zw zch hr rfl T.zec T.zdc.kp T.zff .nil zj (za (zL (za (zg (zg (pv 0) rfl) rfl) zc)) (za (pv 6) zc))))) ?_)))));intros
 have ask0:Sp.ask m (.pull t ns)=gate (decide (0<=t/\t<=20)) (Sp.zaF m.plan.accounts ns).isSome m t.toNat fun _ s=>Sp.za4 [(m.plan.params:Int)] (Sp.zeF m.plan.params s ((Sp.zaF m.plan.accounts ns).getD [])):=by
  unfold Sp.ask
  exact zol t m.plan.accounts ns fun _ w _ s=>Sp.za4 [(m.plan.params:Int)] (Sp.zeF m.plan.params s w)
 rw[ask0]at k
 have BA':=BA
 refine zHd ?_;intro
 obtain⟨d0,pa0,b0,r0,cv0,n0,N0,bs0,qs0,ras0,BP0,_⟩:=BA
 obtain⟨dp0,hpa0⟩:=BP0.plan
 have few0:=BP0.is.few
 rw[BP0.is.acc]at k
 refine⟨_,rfl,_,rfl,bk,_,d0,_,_,rfl,BP0.ins,T.zB,T.zai,zaB _ _,pa0,_,dp0,_,_,rfl,hpa0,T.zaI,T.zbL,zby _ _ _ _,nl,ns,n0,rfl,hnl,hz,by omega,fun v H1 hra=>?_⟩
 refine zHd ?_;intro
 obtain⟨s1,hra⟩:=hra
 have BA1:=BA'.same s1
 have BP1:=BP0.same s1
 have hv:(!decide (v=.non))=(Sp.zaF n0 ns).isSome:=by
  cases er:Sp.zaF n0 ns with
  | none=>rw[er]at hra;cases hra;rfl
  | some qs=>rw[er]at hra;obtain⟨l,as,e,_⟩:=hra;cases e;rfl
 refine⟨_,rfl,bk,d0,_,rfl,BP1.ins,za6 _ _,_,rfl,t,rfl,_,rfl,_,rfl,bk,m,decide (0<=t/\t<=20),_,t,rfl,BA1,fun e=>oDt e,fun x hg H' l BA2 kk hl=>?_,fun ps u e0 e1 ev ep hg H' l BR kk hl=>?_⟩
 ·exact⟨_,rfl,_,.inl ⟨_,SqL.of hl,rfl⟩,zaY ⟨_,rfl,k H' l BA2 ((zS.same s1).trans kk) (by rw[<-hv,hg];exact hl)⟩⟩
 ·refine⟨_,rfl,_,.inl ⟨_,SqL.of hl,rfl⟩,zaT ?_⟩
  have ht:0<=t/\t<=20:=oDt e0
  have et:t=((t.toNat:Nat):Int):=by omega
  rw[<-hv,hg]at k
  rw[hv]at e1
  obtain⟨w0,er⟩ :∃w0,Sp.zaF n0 ns=some w0:=Option.isSome_iff_exists.mp e1
  rw[er]at hra k
  obtain⟨wl,was,ew,hwl,hwl2,QA⟩:=hra
  subst ew
  have V15:=zh0 er hnum
  have hwl3:=kk.qlist hwl2 QA
  have QA3:=kk.qs QA
  have kk0:zS H H':=(zS.same s1).trans kk
  obtain⟨d,pa,b,r,c,rs,ss,ff,n,N,sa,qas,x,r1,l1,as,sh,lines,R⟩:=BR.rdy ep
  obtain⟨dp,hp⟩:=R.plan
  obtain⟨dc,hc⟩:=R.crs
  have n6:=R.n6
  have N8:=R.N8
  have hnn:n0=n:=by rw[<-BP0.is.acc,R.acc]
  subst hnn
  rw[R.par]at k
  have k':zdH A H bk m (Sp.za4 [(N:Int)] (Sp.zeF N u w0)) Q:=k
  have hul:=R.ul
  have t20:=R.t20
  have w0l:=V15.len
  refine⟨_,rfl,bk,_,d,_,_,rfl,R.ins,T.zB,T.z8,zaD _ _,c,dc,_,rfl,hc,zaz _ _ _ _,_,rfl,c,dc,r,rs,ss,ff,sa,t.toNat,x,(by rw[<-et];rfl),hc,R.sheets,R.at_,?_⟩
  refine⟨_,rfl,bk,_,d,_,_,rfl,R.ins,T.zB,T.zai,zaB _ _,pa,_,dp,_,_,rfl,hp,T.zaI,T.zac,zaw _ _ _ _,(N:Int),rfl,by omega,by omega,fun D hD=>?_⟩
  rw[Int.toNat_natCast]
  have hln:(Sp.zeF N u w0).length=N:=by unfold Sp.zeF;rw[lmm,List.length_range]
  refine zi5 (QInv _ D (Sp.zeF N u w0)) (QInv.start hD) ?_ ?_
  ·intro i H2 hi I
   have R2:=R.same I.1
   refine zHd ?_;intro
   obtain⟨dx2,c2,hx2,_⟩:=R2.S.ins
   obtain⟨ra,_,_,hix,hwp⟩:=R2.ratIx hi
   obtain⟨b1,b2⟩:=zeY hwp
   refine⟨rfl,_,rfl,x,dx2,_,rfl,hx2,zbJ _ _ _ _,_,rfl,_,rfl,?_⟩
   refine⟨rs,10*t.toNat+1,x,r1,l1,as,sh,lines,i,_,_,wl,was,w0.map ndQ,(by rw[Int.zero_add];rfl),R2.S,fun row hrow=>by rw[R.ok.len row hrow];omega,hix,SqL.of (I.1 _ _ hwl3),(QA3.same I.1).pr,by rw[lmm,R.ok.rows];omega,by rw[lmm];omega,R.sz.mono (by decide),fun p hp=>?_,by omega,by omega,fun p H3 s3 _ hp3=>?_⟩
   ·obtain⟨g1,g2,g3⟩:=zuF V15 p hp
    exact⟨g1,by omega,by omega⟩
   ·rw[zz2 R.ok (by omega) hi]at hp3
    exact I.step hD (zcm _ hi) (by omega) s3 hp3
  ·intro H2 I
   refine zHd ?_;intro
   obtain⟨s2,tas,h1,h2,h3⟩:=I
   rw[tOl (by omega)]at h3
   have R2:=R.same s2
   obtain⟨dp2,hp2⟩:=R2.plan
   refine⟨_,rfl,bk,_,d,_,_,rfl,R2.ins,T.zB,T.zai,zaB _ _,pa,_,dp2,_,_,rfl,hp2,T.zaI,T.zac,zaw _ _ _ _,zbC,fun z hz=>?_⟩
   have s3:=zl (o:=.lst [.int (N:Int)]) hz
   refine⟨_,rfl,z,D,[(N:Int)],tas,_,rfl,zd,s3 _ _ h1,h3.same s3,(by show 1<=100;decide),by omega,fun H4 l4 s4 hl4 hl5=>?_⟩
   have s5:zq H' H4:=s2.trans (s3.trans s4)
   exact k' H4 l4 (BR.at_.same s5) (kk0.trans (zS.same s5)) hl5
theorem zy2{f:Nat->Rat}{g:Rat}{t i:Nat}(hi:i<t+1)(h:f i<g)(h0 :∀j,j<i->¬f j<g):(List.range (t+1)).findIdx? (fun i=>decide (f i<g))=some i:=by
 rw[List.findIdx?_eq_some_iff_getElem]
 refine⟨by rw[List.length_range];exact hi,?_,fun j hj=>?_⟩
 ·rw[List.getElem_range];exact decide_eq_true h
 ·rw[List.getElem_range]
  intro z
  exact h0 j hj (oDt z)
theorem zy3{f:Nat->Rat}{g:Rat}{t:Nat}(h0 :∀j,j<t+1->¬f j<g):(List.range (t+1)).findIdx? (fun i=>decide (f i<g))=none:=by
 rw[List.findIdx?_eq_none_iff]
 intro x hx
 exact decide_eq_false (h0 x (List.mem_range.mp hx))
inductive ztc(K:Fg)(A:Ad)(vs:List V)(H:Hp)(Q:VK)(E:XK):Prop|I:∀(bk:Addr) (m:Sp.M) (a t:Int) (nl:Addr) (ns:List Int),vs=[.ref bk,.int a,.int t,.ref nl]->zaE A H bk m->SqL K H nl (ns.map V.int)->ns.length<=1000->Sp.Nums ns->zdH A H bk m (Sp.ask m (.first a t ns)) Q->ztc K A vs H Q E
theorem ztd(B:Bs P base)(T:Txt K mg A):zH P w K mg base CX0 50 A.zjI A.ziu ["self","a","t","numbers"] (ztc K A):=by
 have zb4:=(zd0 (w:=w) B T).up 49
 have zah:=zbm (w:=w) B T
 have zch:=(@zeI P w K mg base A T).up 49
 have zaK:=(@zb2 P w K mg base A T).up 49
 have zaQ:=(@zce P w K mg base A T).up 49
 have z9:=(@zbl P w K mg base A T).up 49
 have za8:=(zcQ (w:=w) B T).up 49
 have zx2:=(@zvP P w K mg base A T).up 49
 refine T.zmP.ok zez (fun _ _ _ _ h=>?_) fun _ _ _ s H vs Q E hr h=>?_
 ·obtain⟨bk,m,a,t,nl,ns,rfl,_⟩:=h
  rfl
 obtain⟨bk,m,a,t,nl,ns,rfl,BA,hnl,hz,hnum,k⟩:=h
 refine zQa (qD 4 zez.nd (zw zb4 hr rfl T.zea T.zcx.kp T.zeC .nil zj (za (pv 3) (za zi zc)))) (zQc (qD 5 zez.nd (zp (pv 0) T.zB T.zbn zah hr T.zbA .nil zj (za (zfG (zp (pv 0) T.zB T.zcg zaQ hr T.zcr .nil zj (za (pv 1) zc)) (zi3 (zw zaK hr rfl T.zb3 T.zbF.kp T.zcs .nil zj (za (pv 2) zc)))) (za (zp0 (zoa (pv 4))) (za (pv 2) zc))))) (zQc (zY (zaG (pv 5) (fun _=>rfl)) (zh (zo (pv 5))) zJ) (zQc (zde PassesOwn.never rfl (zc3 rfl T.zcW (za (zW zb7 (pv 2) zi) zc)) (zag (i:=6) zez.nd rfl (Or.inl rfl)) (ze (qD 7 zez.nd (zp (zp (zg (pv 0) rfl) T.zO T.za0 z9 hr T.za7 .nil zj (za (pv 6) zc)) T.zz T.zcn za8 hr T.zcz .nil zj (za (pv 1) zc)))
  (zh (zY (zaG (zw zx2 hr rfl T.zv4 T.zkR.kp T.zxX .nil zj (za (pv 7) (za (zu zA (pv 4) zi (fun _ _=>rfl)) zc))) (fun _=>rfl)) (zh (zo (zw zch hr rfl T.zec T.zdc.kp T.zff .nil zj (za (zL (za zi (za (pv 6) zc))) (za (zL (za (pv 7) zc)) zc))))) zJ)))) (zQl (zh (zo (zL (za zi zc)))) ?_))));intros
 have ask0:Sp.ask m (.first a t ns)=gate (decide (0<=a/\a<(m.plan.accounts:Int))&&decide (0<=t/\t<=20)) (Sp.zaF 1 ns).isSome m t.toNat fun ps _=>Sp.zcB ps m.plan t.toNat a.toNat (Sp.get ((Sp.zaF 1 ns).getD []) 0):=by
  unfold Sp.ask
  exact zhZ fun _=>zol t 1 ns fun t g ps _=>Sp.zcB ps m.plan t a.toNat (Sp.get g 0)
 rw[ask0]at k
 have BA':=BA
 refine zHd ?_;intro
 obtain⟨d0,pa0,b0,r0,cv0,n0,N0,bs0,qs0,ras0,BP0,_⟩:=BA
 obtain⟨dp0,hpa0⟩:=BP0.plan
 have few0:=BP0.is.few
 refine⟨_,rfl,nl,ns,1,rfl,hnl,hz,by omega,fun v H1 hra=>?_⟩
 refine zHd ?_;intro
 obtain⟨s1,hra⟩:=hra
 have BA1:=BA'.same s1
 have BP1:=BP0.same s1
 have hv:(!decide (v=.non))=(Sp.zaF 1 ns).isSome:=by
  cases er:Sp.zaF 1 ns with
  | none=>rw[er]at hra;cases hra;rfl
  | some qs=>rw[er]at hra;obtain⟨l,as,e,_⟩:=hra;cases e;rfl
 refine⟨_,rfl,bk,d0,_,rfl,BP1.ins,za6 _ _,_,rfl,bk,d0,_,rfl,BP1.ins,za6 _ _,_,rfl,bk,m,a,rfl,BA1,_,rfl,?_⟩
 refine zeg (c2:=decide (0<=t/\t<=20)) (fun R hR=>⟨_,rfl,t,rfl,hR⟩) ?_
 refine⟨_,rfl,_,rfl,bk,m,_,_,t,rfl,BA1,fun e=>oDt (bAt _ _ |>.mp e).2,fun x hg H' l BA2 kk hl=>?_,fun ps u e0 e1 ev ep hg H' l BR kk hl=>?_⟩
 ·exact⟨_,rfl,_,.inl ⟨_,SqL.of hl,rfl⟩,zaY ⟨_,rfl,k H' l BA2 ((zS.same s1).trans kk) (by rw[<-hv,hg];exact hl)⟩⟩
 ·refine⟨_,rfl,_,.inl ⟨_,SqL.of hl,rfl⟩,zaT ?_⟩
  have ha:0<=a/\a<(m.plan.accounts:Int):=oDt (bAt _ _ |>.mp e0).1
  have ht:0<=t/\t<=20:=oDt (bAt _ _ |>.mp e0).2
  have et:t=((t.toNat:Nat):Int):=by omega
  have ea:a=((a.toNat:Nat):Int):=by omega
  rw[<-hv,hg]at k
  rw[hv]at e1
  obtain⟨w0,er⟩ :∃w0,Sp.zaF 1 ns=some w0:=Option.isSome_iff_exists.mp e1
  rw[er]at hra k
  obtain⟨wl,was,ew,hwl,hwl2,QA⟩:=hra
  subst ew
  have V15:=zh0 er hnum
  have hwl3:=kk.qlist hwl2 QA
  have QA3:=kk.qs QA
  have kk0:zS H H':=(zS.same s1).trans kk
  have w0l:=V15.len
  refine zHd ?_;intro
  obtain⟨g,rfl⟩ :∃g,w0=[g]:=List.length_eq_one_iff.mp w0l
  have k':zdH A H bk m (Sp.zcB ps m.plan t.toNat a.toNat g) Q:=k
  have hgw:=V15.wt g lMs
  obtain⟨ga,hga,hgq⟩ :∃ga,was[0]? = some ga/\H' ga=some (qT g):=by
   have hlen:=QA3.length
   obtain⟨ga,hga⟩ :∃ga,was[0]? = some ga:=⟨_,gge (by rw[hlen];show 0<1;decide)⟩
   obtain⟨q,hq1,hq2⟩:=QA3.get hga
   cases hq1
   exact⟨ga,hga,hq2⟩
  refine⟨_,rfl,_,_,rfl,rfl,t+1,rfl,by omega,by omega,?_⟩
  rw[show(t+1).toNat=t.toNat+1 by omega]
  refine zhJ (fun i σ H2=>zq H' H2/\(∃(v6 v7:Option V),σ = [some (.ref bk),some (.int a),some (.int t),some (.ref nl),some (.ref wl),some (.ref l),v6,v7])/\∀j,j<i->¬Sp.amt ps m.plan a.toNat j<g)
   ⟨zq.refl _,⟨none,none,rfl⟩,fun j hj=>by omega⟩ ?_ ?_
  ·rintro i σ H2 hi ⟨s2,⟨v6,v7,rfl⟩,hno⟩
   have BR2:=(BR.le (show i<=t.toNat by omega)).same s2
   refine zHd ?_;intro
   obtain⟨v,ev2⟩:=BR2.run
   obtain⟨d,pa,b,r,c,rs,ss,ff,n,N,sa,qas,x,r1,l1,as,sh,lines,R⟩:=BR2.rdy ev2
   obtain⟨dc,hc⟩:=R.crs
   obtain⟨dx2,c2,hx2,_⟩:=R.S.ins
   have hacc:=R.acc
   have hal:a.toNat<n:=by omega
   have eam:Sp.amt ps m.plan a.toNat i=(Sp.dget v a.toNat).1:=by unfold Sp.amt;rw[ev2]
   refine⟨_,rfl,bk,_,d,_,_,rfl,R.ins,T.zB,T.z8,zaD _ _,c,dc,_,rfl,hc,zaz _ _ _ _,_,rfl,c,dc,r,rs,ss,ff,sa,i,x,(by rw[Int.zero_add];rfl),hc,R.sheets,R.at_,?_⟩
   refine⟨x,dx2,_,rfl,hx2,zbJ _ _ _ _,_,rfl,?_⟩
   have am :∀(Q2:VK),QtQ H2 (Sp.dget v a.toNat).1 Q2->zc6 A [.ref x,.int a] H2 Q2 E0:=fun Q2 k2=>by rw[ea];exact R.amountIn (E:=E0) hal k2
   refine am _ fun q H3 s3 hq3 hq4=>?_
   have s23:=s2.trans s3
   have wA:=R.wtA hal
   rw[zeS]at wA
   have wg:=hgw
   rw[zeS]at wg
   refine⟨_,rfl,_,rfl,wl,_,_,_,rfl,rfl,SqL.of (s23 _ _ hwl3),zb8 (j:=0) (by rw[gEm,hga];rfl),q,ga,_,_,_,_,rfl,SqT.of hq4,SqT.of (s23 _ _ hgq),den0 _,den0 _,by omega,by omega,by omega,by omega,_,rfl,?_⟩
   rw[qq,qq,<-eam]
   refine zaZ (fun e=>?_) (fun e=>?_)
   ·have e2:Sp.amt ps m.plan a.toNat i<g:=oDt e
    refine⟨_,rfl,szl2,fun y hy=>?_⟩
    have s4:=zl (o:=.lst [.int 1,.int (0+(i:Int))]) hy
    refine⟨_,rfl,zbC,fun z hz2=>?_⟩
    have s5:=zl (o:=.lst [.ref q]) hz2
    refine⟨y,z,[1,(i:Int)],[q],[Sp.amt ps m.plan a.toNat i],rfl,?_,zd,.cons ?_ .nil,(by show 2<=100;decide),(by show 1<=100;decide),fun H6 l6 s6 hl6 hl7=>?_⟩
    ·rw[s5 _ _ zd,Int.zero_add]
     rfl
    ·rw[s5 _ _ (s4 _ _ hq4),eam]
    ·have s7:zq H' H6:=s23.trans (s4.trans (s5.trans s6))
     refine k' H6 l6 (BR.at_.same s7) (kk0.trans (zS.same s7)) ?_
     unfold Sp.zcB
     rw[zy2 hi e2 hno]
     exact hl7
   ·refine⟨s23,⟨_,_,rfl⟩,fun j hj=>?_⟩
    by_cases hji:j=i
    ·subst hji
     exact fun z=>e (decide_eq_true z)
    ·exact hno j (by omega)
  ·rintro σ H2 ⟨s2,⟨v6,v7,rfl⟩,hno⟩
   refine⟨zbC,fun y hy=>?_⟩
   have s3:zq H' (upd H2 y (.lst [.int 0])):=s2.trans (zl hy)
   refine k' _ y (BR.at_.same s3) (kk0.trans (zS.same s3)) ?_
   unfold Sp.zcB
   rw[zy3 hno]
   exact zd
theorem zlY{H H':Hp}{x dx:Addr}{i:HO}(hx:H x=none)(hd:H dx=none)(kp :∀b o,upd (upd H dx (.own x)) x i b=some o->b≠x->H' b=some o):zq H H':=fun b o hb=>
 kp b o (by rw[zf (zk hb hx),zf (zk hb hd)];exact hb) (zk hb hx)
theorem ziT{H:Hp}{x dx ss:Addr}{i:HO}(h:upd (upd H dx (.own x)) x i ss=none):H ss=none:=by
 have h1:ss≠x:=fun z=>by rw[z,zd]at h;cases h
 have h2:ss≠dx:=fun z=>by rw[zf h1,z,zd]at h;cases h
 rw[zf h1,zf h2]at h
 exact h
theorem zry{H:Hp}{x dx:Addr}{i:HO}(hx:H x=none)(hd:H dx=none):zq H (upd (upd H dx (.own x)) x i):=fun b o hb=>by rw[zf (zk hb hx),zf (zk hb hd)];exact hb
theorem zli.wt{H:Hp}{rs:Addr}{W:Nat}{ps:List Rat}{pl:Vagrao.Plan}{t:Nat}{x:Addr}{u:List Sp.zt}{a:Nat}(h:zli A H rs W ps pl t x)(e:Sp.zaj ps pl t=.ok u)(ht:t<=20)(ha:a<u.length):Sp.wt (Sp.dget u a).1<=2000000:=by
 obtain⟨r,l,as,sh,lines,s,S,e2,o,z⟩:=h
 rw[e]at e2
 cases e2
 have R:=o.row ha
 rw[<-R.am]
 have h1:Sp.wt (zn sh.1 (gI (zD sh.2 a) 0))<=bI (gI (zD sh.2 a) 0)+bI sh.1:=zdE o.pos _
 have h2:=(z.rowAt a).get 0
 have h3:=z.sc
 have h4:bd (10*t)<=1000000:=by unfold bd;omega
 omega
theorem zA6{S:Int}(hS:0<S){b w1 w2:Nat}{ns:List Int}{ws:List (Int×Int)}(hn:zaU b ns)(hw :∀p,p∈ws->0<p.2/\bI p.2<=w1/\bI p.1<=w2) :
  Sp.wt (sumQ ((ns.zip ws).map (wRat S)))<=(b+w2+(1+ws.length*w1)+ws.length)+(bI S+(1+ws.length*w1)):=by
 obtain⟨p1,_,p3⟩:=zlW ws 1 (by decide) fun p hp=>(hw p hp).1
 have hsh0:0<zbo ws:=p1
 have hshz:bI (zbo ws)<=1+ws.length*w1:=zhD ws 1 1 (by decide) (by decide) fun p hp=>⟨(hw p hp).1,(hw p hp).2.1⟩
 have hz :∀z,z∈ns.zip ws->0<z.2.2/\z.2.2∣zbo ws:=fun z hz=>by
  have hm:z.2∈ws:=(List.of_mem_zip (a:=z.1) (b:=z.2) hz).2
  exact⟨(hw _ hm).1,p3 _ hm⟩
 rw[<-znh hS hsh0 _ hz]
 have h1:Sp.wt (zn (S*zbo ws) ((ns.zip ws).map (wTerm (zbo ws))).sum)<=bI ((ns.zip ws).map (wTerm (zbo ws))).sum+bI (S*zbo ws):=zdE (Int.mul_pos hS hsh0) _
 have h2:=zbc S (zbo ws)
 have h3:=zwU (w:=b+w2+(1+ws.length*w1)) (zbo ws) (ns.zip ws) fun z hz'=>by
  have hm:=List.of_mem_zip (a:=z.1) (b:=z.2) hz'
  have g1:=hn z.1 hm.1
  have g2:=(hw z.2 hm.2).2.2
  have g3:=zbc (z.1*z.2.1) (zbo ws/z.2.2)
  have g4:=zbc z.1 z.2.1
  have g5:=zk6 (hz z hz').1 (hz z hz').2
  show bI (z.1*z.2.1*(zbo ws/z.2.2))<=_
  omega
 have h4:(ns.zip ws).length<=ws.length:=by rw[List.length_zip];omega
 omega
theorem zz3{row:List Int}{N:Nat}(h:row.length=N+1):row=gI row 0::(List.range N).map fun k=>gI row (k+1):=by
 refine List.ext_getElem? fun i=>?_
 cases i with
 | zero=>rw[zd1 (by omega)];rfl
 | succ i=>
  rw[List.getElem?_cons_succ]
  by_cases hi:i<N
  ·rw[zcm _ hi,zd1 (by omega)]
  ·rw[List.getElem?_eq_none (by omega),List.getElem?_eq_none (by rw[lmm,List.length_range];omega)]
theorem zy4{N:Nat}{ps:List Rat}{S:Int}{row:List Int}{x:Sp.zt}(hS:0<S)(R:Pr.Rep (N+1) ps S row x)(hps:ps.length=N){qs:List Rat}(hq:qs.length=N) :
  sumQ ((row.zip ((1,1)::List.zipWith zeT (qs.map ndQ) (ps.map ndQ))).map (wRat S))=x.1+Sp.dotR (Sp.zaR N x) qs:=by
 rw[zz3 R.len,List.zip_cons_cons,List.map_cons]
 show zn S (gI row 0)*zn 1 1+sumQ _=_
 have e1:zn 1 1=1:=by rw[zyL];rfl
 rw[e1,Rat.mul_one,R.am]
 congr 1
 unfold Sp.dotR
 rw[zwT]
 congr 1
 refine List.ext_getElem? fun i=>?_
 rw[gEm]
 by_cases hi:i<N
 ·have z1:(((List.range N).map fun k=>gI row (k+1)).zip (List.zipWith zeT (qs.map ndQ) (ps.map ndQ)))[i]? = some (gI row (i+1),zeT (ndQ qs[i]) (ndQ ps[i])):=by
   rw[List.getElem?_zip_eq_some]
   refine⟨zcm _ hi,?_⟩
   rw[List.getElem?_zipWith,gEm,gEm,gge (by omega:i<qs.length),gge (by omega:i<ps.length)]
   rfl
  have z2:(List.zipWith (· * ·) (Sp.zaR N x) qs)[i]? = some (x.2 i*qs[i]):=by
   unfold Sp.zaR
   rw[List.getElem?_zipWith,zcm _ hi,gge (by omega:i<qs.length)]
  rw[z1,z2]
  have eg:Sp.get ps i=ps[i]:=zuB (gge (by omega))
  have r1:=R.sl (by omega) i
  unfold resQ at r1
  rw[eg]at r1
  show some (zn S (gI row (i+1))*zn ((qs[i].den:Int)*rsv ps[i].num) qs[i].num)=_
  rw[<-r1]
  have h1:=zb5 (show S≠0 by omega)
  have h2:=zb5 (znc ps[i].num)
  have h3:=zb5 (show(qs[i].den:Int)≠0 by have:=den0 qs[i];omega)
  have h4:zn S (gI row (i+1))*zn ((qs[i].den:Int)*rsv ps[i].num) qs[i].num=zn (S*rsv ps[i].num) (gI row (i+1))*zn (qs[i].den:Int) qs[i].num:=by
   unfold zn
   rw[rCm,rCm]
   grind
  rw[h4,qq]
 ·rw[List.getElem?_eq_none (by rw[List.length_zip,lmm,List.length_range];omega),List.getElem?_eq_none (by rw[List.length_zipWith];omega)]
  rfl
inductive zqK(K:Fg)(A:Ad)(vs:List V)(H:Hp)(Q:VK)(E:XK):Prop|I:∀(bk:Addr) (m:Sp.M) (a t:Int) (nl:Addr) (ns:List Int),vs=[.ref bk,.int a,.int t,.ref nl]->zaE A H bk m->SqL K H nl (ns.map V.int)->ns.length<=1000->Sp.Nums ns->zdH A H bk m (Sp.ask m (.whatIf a t ns)) Q->zqK K A vs H Q E
theorem zqL(B:Bs P base)(T:Txt K mg A):zH P w K mg base CX0 50 A.zhp A.zgO ["self","a","t","numbers"] (zqK K A):=by
 have zb4:=(zd0 (w:=w) B T).up 49
 have zah:=zbm (w:=w) B T
 have zch:=(@zeI P w K mg base A T).up 49
 have zaK:=(@zb2 P w K mg base A T).up 49
 have zaQ:=(@zce P w K mg base A T).up 49
 have z9:=(@zbl P w K mg base A T).up 49
 have za8:=(zcQ (w:=w) B T).up 49
 have ztw:=(zrs (w:=w) B T).up 49
 have zq0:=(zw0 (w:=w) B T).up 49
 have zbk:=(zcD (w:=w) B T).up 49
 have zeD:=(zhb (w:=w) B T).up 48
 refine T.zkh.ok zbD (fun _ _ _ _ h=>?_) fun _ _ _ s H vs Q E hr h=>?_
 ·obtain⟨bk,m,a,t,nl,ns,rfl,_⟩:=h
  rfl
 obtain⟨bk,m,a,t,nl,ns,rfl,BA,hnl,hz,hnum,k⟩:=h
 refine zQa (qD 4 zbD.nd (zw zb4 hr rfl T.zea T.zcx.kp T.zeC .nil zj (za (pv 3) (za (zg (zg (pv 0) rfl) rfl) zc)))) (zQc (qD 5 zbD.nd (zp (pv 0) T.zB T.zbn zah hr T.zbA .nil zj (za (zfG (zp (pv 0) T.zB T.zcg zaQ hr T.zcr .nil zj (za (pv 1) zc)) (zi3 (zw zaK hr rfl T.zb3 T.zbF.kp T.zcs .nil zj (za (pv 2) zc)))) (za (zp0 (zoa (pv 4))) (za (pv 2) zc))))) (zQc (zY (zaG (pv 5) (fun _=>rfl)) (zh (zo (pv 5))) zJ) (zQc (qD 6 zbD.nd (zc8 T.znP zeD hr rfl T.znL T.ziE .nil zj (za (zg (pv 0) rfl) (za (pv 4) (za zeO zc))))) (zQc (zY (zaG (zp (pv 6) T.zO T.zcE zbk hr T.zcS .nil zj (za (pv 2) zc)) (fun _=>rfl)) (zh (zo (zL (za (zas rfl T.zpj) zc)))) zJ) (zQc (qD 7 zbD.nd (zp (zp (pv 6) T.zO T.za0 z9 hr T.za7 .nil zj (za (pv 2) zc)) T.zz T.zcn za8 hr T.zcz .nil zj (za (pv 1) zc))) (zQc (zlK (g:=gTup K 2 (gCons (zgp 10) (gCons (zgp 11) gNil))) (te:=tCall (zlf K (fun _=>True) fun x y=>x-y) [] E0 (zc0 (zbd 10) (zc0 (zbd 11) zdf))) rfl zbD.nd (i:=8) rfl rfl rfl (zm4 rfl T.zn1 (za (pv 4) (za (zg (zg (pv 0) rfl) rfl) zc))) (zbQ (own:=[("other",10),("ratio",11)]) (by rfl)) (fun _ _ _ _ _=>(zhI (n:=2) rfl (zbP (zag (i:=10) zbD.nd rfl (Or.inl rfl)) (zbP (zag (i:=11) zbD.nd rfl (Or.inl rfl)) zga)))) (fun _ _ _ _ _=>zcq) (fun _ _ _ _ _=>(zw zq0 hr rfl T.zrK T.zls.kp T.zu9 .nil zj (za (pv 10) (za (pv 11) zc))))) (zQc (qD 9 zbD.nd (zp (zp (zg (pv 0) rfl) T.zO T.za0 z9 hr T.za7 .nil zj (za (pv 2) zc)) T.zz T.zrM ztw hr T.ztq .nil zj (za (pv 1) (za (pv 8) zc)))) (zQl (zh (zo (zw zch hr rfl T.zec T.zdc.kp T.zff .nil zj (za (zL (za zi zc)) (za (zL (za (pv 7) (za (pv 9) (za (zw zq0 hr rfl T.zrK T.zls.kp T.zu9 .nil zj (za (pv 7) (za (pv 9) zc))) zc)))) zc))))) ?_))))))));intros
 have ask0:Sp.ask m (.whatIf a t ns)=gate (decide (0<=a/\a<(m.plan.accounts:Int))&&decide (0<=t/\t<=20)) (Sp.zaF m.plan.params ns).isSome m t.toNat fun ps s=>Sp.zbs ((Sp.zaF m.plan.params ns).getD []) m.plan t.toNat fun s'=>Sp.whatR ps ((Sp.zaF m.plan.params ns).getD []) m.plan.params a.toNat s s':=by
  unfold Sp.ask
  exact zhZ fun _=>zol t m.plan.params ns fun t qs ps s=>Sp.zbs qs m.plan t fun s'=>Sp.whatR ps qs m.plan.params a.toNat s s'
 rw[ask0]at k
 have BA':=BA
 refine zHd ?_;intro
 obtain⟨d0,pa0,b0,r0,cv0,n0,N0,bs0,qs0,ras0,BP0,_⟩:=BA
 obtain⟨dp0,hpa0⟩:=BP0.plan
 have few0:=BP0.is.few
 rw[BP0.is.par]at k
 refine⟨_,rfl,_,rfl,bk,_,d0,_,_,rfl,BP0.ins,T.zB,T.zai,zaB _ _,pa0,_,dp0,_,_,rfl,hpa0,T.zaI,T.zac,zaw _ _ _ _,nl,ns,N0,rfl,hnl,hz,by omega,fun v H1 hra=>?_⟩
 refine zHd ?_;intro
 obtain⟨s1,hra⟩:=hra
 have BA1:=BA'.same s1
 have BP1:=BP0.same s1
 have hv:(!decide (v=.non))=(Sp.zaF N0 ns).isSome:=by
  cases er:Sp.zaF N0 ns with
  | none=>rw[er]at hra;cases hra;rfl
  | some qs=>rw[er]at hra;obtain⟨l,as,e,_⟩:=hra;cases e;rfl
 refine⟨_,rfl,bk,d0,_,rfl,BP1.ins,za6 _ _,_,rfl,bk,d0,_,rfl,BP1.ins,za6 _ _,_,rfl,bk,m,a,rfl,BA1,_,rfl,?_⟩
 refine zeg (c2:=decide (0<=t/\t<=20)) (fun R hR=>⟨_,rfl,t,rfl,hR⟩) ?_
 refine⟨_,rfl,_,rfl,bk,m,_,_,t,rfl,BA1,fun e=>oDt (bAt _ _ |>.mp e).2,fun x hg H' l BA2 kk hl=>?_,fun ps u e0 e1 ev ep hg H' l BR kk hl=>?_⟩
 ·exact⟨_,rfl,_,.inl ⟨_,SqL.of hl,rfl⟩,zaY ⟨_,rfl,k H' l BA2 ((zS.same s1).trans kk) (by rw[<-hv,hg];exact hl)⟩⟩
 ·refine⟨_,rfl,_,.inl ⟨_,SqL.of hl,rfl⟩,zaT ?_⟩
  have ha:0<=a/\a<(m.plan.accounts:Int):=oDt (bAt _ _ |>.mp e0).1
  have ht:0<=t/\t<=20:=oDt (bAt _ _ |>.mp e0).2
  have et:t=((t.toNat:Nat):Int):=by omega
  have ea:a=((a.toNat:Nat):Int):=by omega
  rw[<-hv,hg]at k
  rw[hv]at e1
  obtain⟨w0,er⟩ :∃w0,Sp.zaF N0 ns=some w0:=Option.isSome_iff_exists.mp e1
  rw[er]at hra k
  obtain⟨wl,was,ew,hwl,hwl2,QA⟩:=hra
  subst ew
  have V15:=zh0 er hnum
  have hwl3:=kk.qlist hwl2 QA
  have QA3:=kk.qs QA
  have kk0:zS H H':=(zS.same s1).trans kk
  obtain⟨d,pa,b,r,c,rs,ss,ff,n,N,sa,qas,x,r1,l1,as,sh,lines,R⟩:=BR.rdy ep
  obtain⟨dp,hp⟩:=R.plan
  obtain⟨dc,hc⟩:=R.crs
  have n6:=R.n6
  have N8:=R.N8
  have hNN:N0=N:=by rw[<-BP0.is.par,R.par]
  subst hNN
  have hacc:=R.acc
  have hal:a.toNat<n:=by omega
  have hul:=R.ul
  have k':zdH A H bk m (Sp.zbs w0 m.plan t.toNat fun s'=>Sp.whatR ps w0 N0 a.toNat u s') Q:=k
  obtain⟨d2,pa2,b2,r2,c2,rs2,ss2,ff2,n2,N2,bs2,qs2,ras2,sa2,fl2,BP2,C2,_⟩:=id BR
  have hN2:N2=N0:=by rw[<-BP2.is.par,R.par]
  subst hN2
  refine⟨_,rfl,bk,_,d2,_,_,rfl,BP2.ins,T.zB,T.zai,zaB _ _,_,rfl,?_⟩
  intro y dy hy hdy hny
  have sp1:=zry (i:=.ins A.zao dy []) hy hdy
  refine⟨y,dy,pa2,wl,b2,r2,n2,N2,bs2,qs2,w0,m.plan,ras2,was,false,rfl,zd,BP2.plan.same sp1,sp1 _ _ BP2.begs,sp1 _ _ BP2.ruls,BP2.rule.same sp1,sp1 _ _ hwl3,QA3.same sp1,BP2.is,V15,fun H2 sy fy say CT lensa hsy0 kpy=>⟨rfl,?_⟩⟩
  have s2:zq H' H2:=zlY hy hdy kpy
  have hsy:=ziT hsy0
  refine zHd ?_;intro
  obtain⟨dt,hct⟩:=CT.ins
  refine⟨_,rfl,y,dt,_,rfl,hct,zaz _ _ _ _,_,rfl,y,r2,wl,sy,fy,qs2,w0,m.plan,zat false N2,say,[],n2,N2,bs2,t.toNat,(by rw[<-et];rfl),CT,BP2.is,V15,by omega,by omega,fun H3 fy2 l3 sa3 fl3 C3 few3 kp3 hl3 hrdy3=>?_⟩
  have s3:zq H' H3:=fun b' o hb=>kp3 b' o (s2 _ _ hb) (zk hb hy) (zk hb hsy)
  refine⟨_,.inl ⟨_,SqL.of hl3,rfl⟩,?_⟩
  cases ep2:Sp.zaj w0 m.plan t.toNat with
  | error e=>
   have e4:zbO w0 m.plan t.toNat=[(e.1.1:Int),(e.1.2:Int),(e.2:Int)]:=by unfold zbO;rw[ep2]
   rw[e4]
   refine zaY ⟨zbC,fun l5 hl5=>?_⟩
   have s5:zq H' (upd H3 l5 (.lst [.int (-5)])):=s3.trans (zl hl5)
   refine k' _ l5 (BR.at_.same s5) (kk0.trans (zS.same s5)) ?_
   unfold Sp.zbs
   rw[ep2]
   exact zd
  | ok v=>
  have e4:zbO w0 m.plan t.toNat=[]:=by unfold zbO;rw[ep2]
  have hlt3:=hrdy3 e4
  rw[e4]
  refine zaT ?_
  have k3:zdH A H bk m (Sp.whatR ps w0 N2 a.toNat u v) Q:=by
   unfold Sp.zbs at k'
   rw[ep2]at k'
   exact k'
  refine zHd ?_;intro
  obtain⟨dt3,hct3⟩:=C3.ins
  have SI:=C3.each t.toNat _ (gge hlt3)
  have hvl:v.length=n:=by rw[zgj t.toNat v ep2,BP2.is.beg,lmm,BP2.is.len,<-BP2.is.acc,R.acc]
  refine⟨_,rfl,y,dt3,_,rfl,hct3,zaz _ _ _ _,_,rfl,y,dt3,r2,wl,sy,fy2,sa3,t.toNat,_,(by rw[<-et];rfl),hct3,C3.sheets,gge hlt3,?_⟩
  refine zHd ?_;intro
  obtain⟨_,_,_,_,_,_,S3,_⟩:=id SI
  obtain⟨dx3,_,hx3,_⟩:=S3.ins
  refine⟨_,dx3,_,rfl,hx3,zbJ _ _ _ _,_,rfl,?_⟩
  have am :∀(Q2:VK),QtQ H3 (Sp.dget v a.toNat).1 Q2->zc6 A [.ref sa3[t.toNat],.int a] H3 Q2 E0:=fun Q2 k2=>by rw[ea];exact SI.amountIn (E:=E0) ep2 (by omega) (by omega) k2
  refine am _ fun q4 H4 s4 hq4 hq5=>?_
  have wV:=SI.wt ep2 (by omega) (show a.toNat<v.length by omega)
  have s34:zq H' H4:=s3.trans s4
  have R4:=R.same s34
  refine zHd ?_;intro
  obtain⟨dc4,hc4⟩:=R4.crs
  have w0l:=V15.len
  have psl:=R.v15.len
  have qasl:=R.qs.length
  have wasl:=QA3.length
  refine⟨_,rfl,_,rfl,bk,_,d,_,_,rfl,R4.ins,T.zB,T.z8,zaD _ _,c,_,dc4,_,_,rfl,hc4,T.zO,T.zb6,zdb _ _ _ _,wl,rs,_,_,rfl,SqL.of (s34 _ _ hwl3),SqL.of R4.vals,fun D hD=>?_⟩
  have hstl:(List.zipWith (· - ·) w0 ps).length=N2:=by rw[List.length_zipWith];omega
  refine zuw (K:=K) (a:=wl) (b:=rs) (xs:=was.map V.ref) (ys:=qas.map V.ref) (by rw[lmm,lmm];omega) (QInv H4 D (List.zipWith (· - ·) w0 ps)) (QInv.start hD) (fun i H5 _ I=>⟨SqL.of (I.1 _ _ (s34 _ _ hwl3)),SqL.of (I.1 _ _ R4.vals)⟩) ?_ ?_
  ·intro i x1 y1 T5 H5 hx1 hy1 hT5 I
   refine zHd ?_;intro
   obtain⟨z1,hz1,rfl⟩:=ze0 hx1
   obtain⟨z2,hz2,rfl⟩:=ze0 hy1
   obtain⟨g1,hg1,hg2⟩:=((QA3.same s34).same I.1).get hz1
   obtain⟨g3,hg3,hg4⟩:=(R4.qs.same I.1).get hz2
   have wg1:=V15.wt g1 (mge hg1)
   have wg3:=R.v15.wt g3 (mge hg3)
   have s5:=zl (o:=.tup [.ref z1,.ref z2]) hT5
   have hi:i<was.length:=(List.getElem?_eq_some_iff.mp hz1).1
   have hzi:(List.zipWith (· - ·) w0 ps)[i]? = some (g1-g3):=by rw[List.getElem?_zipWith,hg1,hg3]
   refine⟨T5,_,rfl,SqT.of zd,rfl,_,_,rfl,_,_,rfl,rfl,rfl,_,rfl,_,rfl,?_⟩
   dsimp only[zdf]
   refine twoIn (K:=K) (C:=fun _=>True) (f:=fun x y=>x-y) (s5 _ _ hg2) (s5 _ _ hg4) trivial (by omega) (by omega) fun q6 hq6=>?_
   exact I.step hD hzi (by omega) (s5.trans (zl hq6)) zd
  ·intro H5 I
   refine zHd ?_;intro
   obtain⟨s5,sts,h1,h2,h3⟩:=I
   rw[tOl (by rw[lmm];omega)]at h3
   have R5:=R4.same s5
   obtain⟨dc5,hc5⟩:=R5.crs
   obtain⟨dx5,c5,hx5,_⟩:=R5.S.ins
   have Rr:=R.ok.row (a:=a.toNat) (by omega)
   have hst :∀p,p∈(List.zipWith (· - ·) w0 ps).map ndQ->0<p.2/\bI p.2<=7000/\bI p.1<=7000:=fun p hp=>by
    rw[List.mem_map]at hp
    obtain⟨q,hq,rfl⟩:=hp
    obtain⟨i,hi⟩:=List.getElem?_of_mem hq
    rw[List.getElem?_zipWith]at hi
    cases e5:w0[i]? with
    | none=>rw[e5]at hi;cases hi
    | some g1=>
     cases e6:ps[i]? with
     | none=>rw[e5,e6]at hi;cases hi
     | some g3=>
      rw[e5,e6]at hi
      have e7:g1-g3=q:=oSi hi
      subst e7
      have wg1:=V15.wt g1 (mge e5)
      have wg3:=R.v15.wt g3 (mge e6)
      have:=zy0 g1 g3
      obtain⟨b1,b2⟩:=zeY (w:=7000) (q:=g1-g3) (by omega)
      exact⟨den0 _,b2,b1⟩
   refine⟨_,rfl,bk,_,d,_,_,rfl,R5.ins,T.zB,T.z8,zaD _ _,c,dc5,_,rfl,hc5,zaz _ _ _ _,_,rfl,c,dc5,r,rs,ss,ff,sa,t.toNat,x,(by rw[<-et];rfl),hc5,R5.sheets,R5.at_,?_⟩
   refine⟨x,dx5,_,rfl,hx5,zbJ _ _ _ _,_,rfl,_,rfl,?_⟩
   refine⟨rs,10*t.toNat+1,x,r1,l1,as,sh,lines,a.toNat,D,sts,qas,(List.zipWith (· - ·) w0 ps).map ndQ,ps.map ndQ,(by rw[<-ea];rfl),R5.S,by rw[R.ok.rows];omega,R5.vals,R5.qs.pr,SqL.of h1,h3.pr,by rw[lmm,lmm];omega,by rw[Rr.len,lmm];omega,by rw[lmm];omega,R.sz.mono (by decide),fun p hp=>?_,fun p hp=>?_,by omega,fun q6 H6 s6 hq6 hq7=>?_⟩
   ·obtain⟨g1,g2,g3⟩:=hst p hp
    exact⟨g1,by omega,by omega⟩
   ·obtain⟨g1,g2,g3⟩:=zuF R.v15 p hp
    omega
   have hgs:=zy4 R.ok.pos Rr psl hstl
   have wG:=zA6 (w1:=9000) (w2:=7000) R.ok.pos (R.sz.rowAt a.toNat) (ws:=(1,1)::List.zipWith zeT ((List.zipWith (· - ·) w0 ps).map ndQ) (ps.map ndQ)) fun p hp=>by
    rcases List.mem_cons.mp hp with e5|hp
    ·subst e5;exact⟨by decide,by decide,by decide⟩
    ·obtain⟨i,hi⟩:=List.getElem?_of_mem hp
     rw[List.getElem?_zipWith]at hi
     cases e5:((List.zipWith (· - ·) w0 ps).map ndQ)[i]? with
     | none=>rw[e5]at hi;cases hi
     | some g1=>
      cases e6:(ps.map ndQ)[i]? with
      | none=>rw[e5,e6]at hi;cases hi
      | some g3=>
       rw[e5,e6]at hi
       have e7:zeT g1 g3=p:=oSi hi
       subst e7
       refine zHd ?_;intro
       obtain⟨f1,f2,f3⟩:=hst g1 (mge e5)
       obtain⟨f4,f5,f6⟩:=zuF R.v15 g3 (mge e6)
       have b6:=zfK g3.1
       have b7:=zbc g1.2 (rsv g3.1)
       exact⟨Int.mul_pos f1 (ziY _),by show bI (g1.2*rsv g3.1)<=_;omega,f3⟩
   have hwl9:((1,1)::List.zipWith zeT ((List.zipWith (· - ·) w0 ps).map ndQ) (ps.map ndQ)).length<=9:=by
    rw[List.length_cons,List.length_zipWith,lmm,lmm]
    omega
   have hmul:((1,1)::List.zipWith zeT ((List.zipWith (· - ·) w0 ps).map ndQ) (ps.map ndQ)).length*9000<=9*9000:=Nat.mul_le_mul_right _ hwl9
   have hsc:=R.sz.sc
   rw[hgs]at hq7 wG
   have s46:zq H4 H6:=s5.trans s6
   refine⟨zbC,fun l8 hl8=>?_⟩
   have s8:=zl (o:=.lst [.int 3]) hl8
   refine⟨_,rfl,_,rfl,_,rfl,_,rfl,?_⟩
   dsimp only[zdf]
   refine twoIn (K:=K) (C:=fun _=>True) (f:=fun x y=>x-y) (s8 _ _ (s46 _ _ hq5)) (s8 _ _ hq7) trivial (by omega) (by omega) fun q9 hq9=>?_
   have s9:=zl (o:=qT ((Sp.dget v a.toNat).1-((Sp.dget u a.toNat).1+Sp.dotR (Sp.zaR N2 (Sp.dget u a.toNat)) (List.zipWith (· - ·) w0 ps)))) hq9
   refine⟨szl3,fun l10 hl10=>?_⟩
   have s10:=zl (o:=.lst [.ref q4,.ref q6,.ref q9]) hl10
   refine⟨l8,l10,[3],[q4,q6,q9],[_,_,_],rfl,s10 _ _ (s9 _ _ zd),zd,.cons (s10 _ _ (s9 _ _ (s8 _ _ (s46 _ _ hq5)))) (.cons (s10 _ _ (s9 _ _ (s8 _ _ hq7))) (.cons (s10 _ _ zd) .nil)),(by show 1<=100;decide),(by show 3<=100;decide),fun H11 l11 s11 hl11 hl12=>?_⟩
   have s12:zq H' H11:=s34.trans (s46.trans (s8.trans (s9.trans (s10.trans s11))))
   exact k3 H11 l11 (BR.at_.same s12) (kk0.trans (zS.same s12)) hl12
theorem zam.set{H:Hp}{a:Addr}{q:Rat}(h:H a=some (qT q)) :∀{as:List Addr} {qs:List Rat} (i:Nat),zam H as qs->zam H (as.set i a) (qs.set i q)
 | _,_,_,.nil=>.nil
 | _,_,0,.cons _ t=>.cons h t
 | _,_,i+1,.cons g t=>.cons g (zam.set h i t)
theorem zfM.set{N:Nat}{ps:List Rat}(h:zfM N ps)(i:Nat){q:Rat}(hq:Sp.wt q<=1500):zfM N (ps.set i q):=by
 refine⟨by rw[List.length_set];exact h.len,fun y hy=>?_⟩
 rcases List.mem_or_eq_of_mem_set hy with e|e
 ·exact h.wt y e
 ·rw[e];exact hq
inductive zte(A:Ad)(vs:List V)(H:Hp)(Q:VK)(E:XK):Prop|I:∀(bk d pa b r c rs ss ff:Addr) (n N:Nat) (bs:List Int) (qs:List zav) (ras sa:List Addr) (fl:List Int) (m:Sp.M) (ps:List Rat) (p:Nat) (ra:Addr) (q:Rat),vs=[.ref bk,.int (p:Int),.ref ra]->BookP A H bk d pa b r (.ref c) n N bs qs ras m->CvAt A H c r rs ss ff qs ps N sa fl m->H ra=some (qT q)->p<N->Sp.wt q<=1500->(∀(H2:Hp) (y rs2 sy fy:Addr) (say:List Addr),zq H H2->H y=none->H sy=none->zan A H2 y r rs2 sy fy qs (ps.set p q) m.plan 1 say []->say.length=1->Q (.ref y) H2)->zte A vs H Q E
theorem znB(B:Bs P base)(T:Txt K mg A):zH P w K mg base CX0 47 A.zfB A.ze8 ["self","p","ratio"] (zte A):=by
 have zeD:=zhb (w:=w) B T
 refine T.zh6.ok zhV (fun _ _ _ _ h=>?_) fun _ _ _ s H vs Q E hr h=>?_
 ·obtain⟨bk,d,pa,b,r,c,rs,ss,ff,n,N,bs,qs,ras,sa,fl,m,ps,p,ra,q,rfl,_⟩:=h
  rfl
 obtain⟨bk,d,pa,b,r,c,rs,ss,ff,n,N,bs,qs,ras,sa,fl,m,ps,p,ra,q,rfl,BP,C,hra,hp,hw,k⟩:=h
 refine zQa (qD 3 zhV.nd (zgb zeW (by rfl) T.zlA boot_list (za (zg (zg (pv 0) rfl) rfl) zc))) (zQc (zkX (pv 2) (zkW (pv 3) (pv 1) zeV)) (zQl (zh (zo (zc8 T.znP zeD hr rfl T.znL T.ziE .nil zj (za (zg (pv 0) rfl) (za (pv 3) (za zeO zc)))))) ?_));intros
 refine zHd ?_;intro
 obtain⟨dc,hc⟩:=C.at_.ins
 obtain⟨qas,hrs,hqs⟩:=C.at_.vals
 have hl:=hqs.length
 have hv:=C.v15.len
 refine⟨_,rfl,bk,_,d,_,_,rfl,BP.ins,T.zB,T.z8,zaD _ _,c,_,dc,_,_,rfl,hc,T.zO,T.zb6,zdb _ _ _ _,rs,_,rfl,.inl (SqL.of hrs),fun l hl1=>?_⟩
 have s1 :∀o,zq H (upd H l o):=fun o=>zl hl1
 refine⟨_,rfl,_,rfl,_,rfl,l,_,(p:Int),p,rfl,rfl,zd,zgh (by rw[lmm];omega),?_⟩
 rw[zaS,show(qas.map V.ref).set p (V.ref ra)=(qas.set p ra).map V.ref by rw[List.map_set]]
 have s2:=s1 (.lst ((qas.set p ra).map V.ref))
 refine⟨_,rfl,bk,_,d,_,_,rfl,s2 _ _ BP.ins,T.zB,T.zai,zaB _ _,_,rfl,?_⟩
 intro y dy hy hdy hny
 have sp1:=zry (i:=.ins A.zao dy []) hy hdy
 have s3:=s2.trans sp1
 refine⟨y,dy,pa,l,b,r,n,N,bs,qs,ps.set p q,m.plan,ras,qas.set p ra,false,rfl,zd,BP.plan.same s3,s3 _ _ BP.begs,s3 _ _ BP.ruls,BP.rule.same s3,sp1 _ _ zd,(hqs.same s3).set (s3 _ _ hra) p,BP.is,C.v15.set p hw,fun H2 sy fy say CT lensa hsy0 kpy=>⟨rfl,?_⟩⟩
 exact k H2 y l sy fy say (s2.trans (zlY hy hdy kpy)) (s2.free hy) (s2.free (ziT hsy0)) CT lensa
inductive zvY(K:Fg)(A:Ad)(vs:List V)(H:Hp)(Q:VK)(E:XK):Prop|I:∀(bk:Addr) (m:Sp.M) (a p t:Int) (nl:Addr) (ns:List Int),vs=[.ref bk,.int a,.int p,.int t,.ref nl]->zaE A H bk m->SqL K H nl (ns.map V.int)->ns.length<=1000->Sp.Nums ns->zdH A H bk m (Sp.ask m (.aim a p t ns)) Q->zvY K A vs H Q E
theorem zvZ(B:Bs P base)(T:Txt K mg A):zH P w K mg base CX0 50 A.zl9 A.zkK ["self","a","p","t","numbers"] (zvY K A):=by
 have zb4:=(zd0 (w:=w) B T).up 49
 have zah:=zbm (w:=w) B T
 have zch:=(@zeI P w K mg base A T).up 49
 have zaK:=(@zb2 P w K mg base A T).up 49
 have zaQ:=(@zce P w K mg base A T).up 49
 have zeN:=(@zgF P w K mg base A T).up 49
 have z9:=(@zbl P w K mg base A T).up 49
 have za8:=(zcQ (w:=w) B T).up 49
 have zcX:=(zfo (w:=w) B T).up 49
 have zq0:=(zw0 (w:=w) B T).up 49
 have zn6:=(zqB (w:=w) B T).up 49
 have zBo:=(zzL (w:=w) B T).up 49
 have zhv:=(@znv P w K mg base A T).up 49
 have zoL:=(znB (w:=w) B T).up 49
 have zbk:=(zcD (w:=w) B T).up 49
 refine T.zph.ok zcC (fun _ _ _ _ h=>?_) fun _ _ _ s H vs Q E hr h=>?_
 ·obtain⟨bk,m,a,p,t,nl,ns,rfl,_⟩:=h
  rfl
 obtain⟨bk,m,a,p,t,nl,ns,rfl,BA,hnl,hz,hnum,k⟩:=h
 refine zQa (qD 5 zcC.nd (zw zb4 hr rfl T.zea T.zcx.kp T.zeC .nil zj (za (pv 4) (za zi zc)))) (zQc (qD 6 zcC.nd (zfG (zp (pv 0) T.zB T.zcg zaQ hr T.zcr .nil zj (za (pv 1) zc)) (zfG (zp (pv 0) T.zB T.zgS zeN hr T.zg5 .nil zj (za (pv 2) zc)) (zi3 (zw zaK hr rfl T.zb3 T.zbF.kp T.zcs .nil zj (za (pv 3) zc)))))) (zQc (qD 7 zcC.nd (zp (pv 0) T.zB T.zbn zah hr T.zbA .nil zj (za (pv 6) (za (zp0 (zoa (pv 5))) (za (pv 3) zc))))) (zQc (zY (zaG (pv 7) (fun _=>rfl)) (zh (zo (pv 7))) zJ) (zQc (qD 8 zcC.nd (zp (zg (pv 0) rfl) T.zO T.za0 z9 hr T.za7 .nil zj (za (pv 3) zc))) (zQc (qD 9 zcC.nd (zp (pv 8) T.zz T.zfp zcX hr T.zfZ .nil zj (za (pv 1) (za (pv 2) zc)))) (zQc (zY (z5 zb0 (zu z6 (pv 9) zi (fun _ _=>rfl)) zi (nomark _)) (zh (zo (zL (za zi zc)))) zJ) (zQc (qD 10 zcC.nd (zw zn6 hr rfl T.zqQ T.ziU.kp T.zsQ .nil zj (za (zw zq0 hr rfl T.zrK T.zls.kp T.zu9 .nil zj (za (zu zA (pv 5) zi (fun _ _=>rfl)) (za (zp (pv 8) T.zz T.zcn za8 hr T.zcz .nil zj (za (pv 1) zc)) zc))) (za (pv 9) zc)))) (zQc (qD 11 zcC.nd (zw zBo hr rfl T.zAb T.zpQ.kp T.zBm .nil zj (za (zu zA (zg (zg (pv 0) rfl) rfl) (pv 2) (fun _ _=>rfl)) (za (pv 10) zc)))) (zQc (zY (z5 zlI (zw zhv hr rfl T.zkb T.zgm.kp T.zmp .nil zj (za (pv 11) zc)) (zas rfl T.zmR) (nomark _)) (zh (zo (zL (za (zas rfl T.zjV) zc)))) zJ) (zQc (qD 12 zcC.nd (zp (pv 0) T.zB T.znO zoL hr T.zoJ .nil zj (za (pv 2) (za (pv 11) zc)))) (zQc (zY (zaG (zp (pv 12) T.zO T.zcE zbk hr T.zcS .nil zj (za (pv 3) zc)) (fun _=>rfl)) (zh (zo (zw zch hr rfl T.zec T.zdc.kp T.zff .nil zj (za (zL (za zi zc)) (za (zL (za (pv 11) zc)) zc))))) zJ) (zQl (zh (zo (zw zch hr rfl T.zec T.zdc.kp T.zff .nil zj (za (zL (za zi zc)) (za (zL (za (pv 11) (za (zp (zp (pv 12) T.zO T.za0 z9 hr T.za7 .nil zj (za (pv 3) zc)) T.zz T.zcn za8 hr T.zcz .nil zj (za (pv 1) zc)) zc))) zc))))) ?_))))))))))));intros
 have ask0:Sp.ask m (.aim a p t ns)=gate (decide (0<=a/\a<(m.plan.accounts:Int))&&(decide (0<=p/\p<(m.plan.params:Int))&&decide (0<=t/\t<=20))) (Sp.zaF 1 ns).isSome m t.toNat fun ps s=>Sp.aimR ps m.plan t.toNat a.toNat p.toNat (Sp.get ((Sp.zaF 1 ns).getD []) 0) s:=by
  unfold Sp.ask
  exact zhZ fun _=>zhZ fun _=>zol t 1 ns fun t g ps s=>Sp.aimR ps m.plan t a.toNat p.toNat (Sp.get g 0) s
 rw[ask0]at k
 have BA':=BA
 refine zHd ?_;intro
 obtain⟨d0,pa0,b0,r0,cv0,n0,N0,bs0,qs0,ras0,BP0,_⟩:=BA
 obtain⟨dp0,hpa0⟩:=BP0.plan
 have few0:=BP0.is.few
 refine⟨_,rfl,nl,ns,1,rfl,hnl,hz,by omega,fun v H1 hra=>?_⟩
 refine zHd ?_;intro
 obtain⟨s1,hra⟩:=hra
 have BA1:=BA'.same s1
 have BP1:=BP0.same s1
 have hv:(!decide (v=.non))=(Sp.zaF 1 ns).isSome:=by
  cases er:Sp.zaF 1 ns with
  | none=>rw[er]at hra;cases hra;rfl
  | some qs=>rw[er]at hra;obtain⟨l,as,e,_⟩:=hra;cases e;rfl
 refine⟨_,rfl,bk,d0,_,rfl,BP1.ins,za6 _ _,_,rfl,bk,m,a,rfl,BA1,_,rfl,?_⟩
 refine zeg (c2:=decide (0<=p/\p<(m.plan.params:Int))&&decide (0<=t/\t<=20)) (fun R hR=>⟨_,rfl,bk,d0,_,rfl,BP1.ins,za6 _ _,_,rfl,bk,m,p,rfl,BA1,_,rfl,zeg (c2:=decide (0<=t/\t<=20)) (fun R2 hR2=>⟨_,rfl,t,rfl,hR2⟩) hR⟩) ?_
 refine⟨_,rfl,bk,d0,_,rfl,BP1.ins,za6 _ _,_,rfl,_,rfl,_,rfl,bk,m,_,_,t,rfl,BA1,fun e=>oDt (bAt _ _ |>.mp (bAt _ _ |>.mp e).2).2,fun x hg H' l BA2 kk hl=>?_,fun ps u e0 e1 ev ep hg H' l BR kk hl=>?_⟩
 ·exact⟨_,rfl,_,.inl ⟨_,SqL.of hl,rfl⟩,zaY ⟨_,rfl,k H' l BA2 ((zS.same s1).trans kk) (by rw[<-hv,hg];exact hl)⟩⟩
 ·refine⟨_,rfl,_,.inl ⟨_,SqL.of hl,rfl⟩,zaT ?_⟩
  have e2:=bAt _ _ |>.mp e0
  have e3:=bAt _ _ |>.mp e2.2
  have ha:0<=a/\a<(m.plan.accounts:Int):=oDt e2.1
  have hpp:0<=p/\p<(m.plan.params:Int):=oDt e3.1
  have ht:0<=t/\t<=20:=oDt e3.2
  have et:t=((t.toNat:Nat):Int):=by omega
  have ea:a=((a.toNat:Nat):Int):=by omega
  have epp:p=((p.toNat:Nat):Int):=by omega
  rw[<-hv,hg]at k
  rw[hv]at e1
  obtain⟨w0,er⟩ :∃w0,Sp.zaF 1 ns=some w0:=Option.isSome_iff_exists.mp e1
  rw[er]at hra k
  obtain⟨wl,was,ew,hwl,hwl2,QA⟩:=hra
  subst ew
  have V15:=zh0 er hnum
  have hwl3:=kk.qlist hwl2 QA
  have QA3:=kk.qs QA
  have kk0:zS H H':=(zS.same s1).trans kk
  have w0l:=V15.len
  obtain⟨g,rfl⟩ :∃g,w0=[g]:=List.length_eq_one_iff.mp w0l
  have k':zdH A H bk m (Sp.aimR ps m.plan t.toNat a.toNat p.toNat g u) Q:=k
  have hgw:=V15.wt g lMs
  obtain⟨ga,hga,hgq⟩ :∃ga,was[0]? = some ga/\H' ga=some (qT g):=by
   have hlen:=QA3.length
   obtain⟨ga,hga⟩ :∃ga,was[0]? = some ga:=⟨_,gge (by rw[hlen];show 0<1;decide)⟩
   obtain⟨q,hq1,hq2⟩:=QA3.get hga
   cases hq1
   exact⟨ga,hga,hq2⟩
  obtain⟨d,pa,b,r,c,rs,ss,ff,n,N,sa,qas,x,r1,l1,as,sh,lines,R⟩:=BR.rdy ep
  obtain⟨dp,hp⟩:=R.plan
  obtain⟨dc,hc⟩:=R.crs
  have n6:=R.n6
  have N8:=R.N8
  have hacc:=R.acc
  have hpar:=R.par
  have hal:a.toNat<n:=by omega
  have hpl:p.toNat<N:=by omega
  have hul:=R.ul
  unfold Sp.aimR at k'
  refine⟨_,rfl,bk,_,d,_,_,rfl,R.ins,T.zB,T.z8,zaD _ _,c,dc,_,rfl,hc,zaz _ _ _ _,_,rfl,c,dc,r,rs,ss,ff,sa,t.toNat,x,(by rw[<-et];rfl),hc,R.sheets,R.at_,?_⟩
  refine zHd ?_;intro
  obtain⟨dx,c1,hx,_⟩:=R.S.ins
  refine⟨_,rfl,x,dx,_,rfl,hx,zbJ _ _ _ _,_,rfl,_,rfl,?_⟩
  have sl :∀(Q2:VK),QtQ H' ((Sp.dget u a.toNat).2 p.toNat) Q2->zhc A [.ref x,.int a,.int p] H' Q2 E0:=fun Q2 k2=>by rw[ea,epp];exact R.slopeIn (E:=E0) hal hpl k2
  refine sl _ fun q H2 s2 hq hq2=>?_
  refine⟨_,rfl,q,_,_,_,rfl,rfl,SqT.of hq2,rfl,rfl,_,rfl,?_⟩
  by_cases hz:(Sp.dget u a.toNat).2 p.toNat=0
  ·have hz2:((Sp.dget u a.toNat).2 p.toNat).num=0:=by rw[hz];rfl
   rw[show decide (V.int ((Sp.dget u a.toNat).2 p.toNat).num=V.int 0)=true from decide_eq_true (by rw[hz2])]
   rw[if_pos hz]at k'
   refine zaY ⟨zbC,fun l2 hl2=>?_⟩
   have s3:zq H' (upd H2 l2 (.lst [.int 0])):=s2.trans (zl hl2)
   exact k' _ l2 (BR.at_.same s3) (kk0.trans (zS.same s3)) zd
  have hz2:((Sp.dget u a.toNat).2 p.toNat).num≠0:=fun z=>hz (Rat.num_eq_zero.mp z)
  rw[show decide (V.int ((Sp.dget u a.toNat).2 p.toNat).num=V.int 0)=false from decide_eq_false fun z=>hz2 (V.int.inj z)]
  rw[if_neg hz]at k'
  refine zaT ?_
  have R2:=R.same s2
  refine zHd ?_;intro
  obtain⟨dx2,c2,hx2,_⟩:=R2.S.ins
  obtain⟨ra,hra,hra2,_,hwp⟩:=R2.ratIx hpl
  have wA:=R.wtA hal
  have wS:=R.wtS hal hpl
  refine⟨_,rfl,wl,_,_,_,rfl,rfl,SqL.of (s2 _ _ hwl3),zb8 (j:=0) (by rw[gEm,hga];rfl),_,rfl,x,dx2,_,rfl,hx2,zbJ _ _ _ _,_,rfl,?_⟩
  have am :∀(Q2:VK),QtQ H2 (Sp.dget u a.toNat).1 Q2->zc6 A [.ref x,.int a] H2 Q2 E0:=fun Q2 k2=>by rw[ea];exact R2.amountIn (E:=E0) hal k2
  refine am _ fun q3 H3 s3 hq3 hq4=>?_
  have s23:=s2.trans s3
  dsimp only[zdf]
  refine twoIn (K:=K) (C:=fun _=>True) (f:=fun x y=>x-y) (s23 _ _ hgq) hq4 trivial (by omega) (by omega) fun q5 hq5=>?_
  have s5:=zl (o:=qT (g-(Sp.dget u a.toNat).1)) hq5
  have w5:=zy0 g (Sp.dget u a.toNat).1
  refine⟨_,rfl,?_⟩
  dsimp only[zdf]
  refine twoIn (K:=K) (C:=fun m=>m≠0) (f:=fun x y=>x/y) zd (s5 _ _ (s3 _ _ hq2)) hz2 (by omega) (by omega) fun q6 hq6=>?_
  have s6:=zl (o:=qT ((g-(Sp.dget u a.toNat).1)/(Sp.dget u a.toNat).2 p.toNat)) hq6
  have w6:=zBU (g-(Sp.dget u a.toNat).1) hz
  have s26:zq H2 (upd (upd H3 q5 (qT (g-(Sp.dget u a.toNat).1))) q6 (qT ((g-(Sp.dget u a.toNat).1)/(Sp.dget u a.toNat).2 p.toNat))):=s3.trans (s5.trans s6)
  have hq66:upd (upd H3 q5 (qT (g-(Sp.dget u a.toNat).1))) q6 (qT ((g-(Sp.dget u a.toNat).1)/(Sp.dget u a.toNat).2 p.toNat)) q6=some (qT ((g-(Sp.dget u a.toNat).1)/(Sp.dget u a.toNat).2 p.toNat)):=zd
  generalize upd (upd H3 q5 (qT (g-(Sp.dget u a.toNat).1))) q6 (qT ((g-(Sp.dget u a.toNat).1)/(Sp.dget u a.toNat).2 p.toNat))=H6 at s26 hq66⊢
  have R6:=R2.same s26
  refine zHd ?_;intro
  obtain⟨dc6,hc6⟩:=R6.crs
  refine⟨_,rfl,bk,_,d,_,_,rfl,R6.ins,T.zB,T.z8,zaD _ _,c,_,dc6,_,_,rfl,hc6,T.zO,T.zb6,zdb _ _ _ _,_,rfl,rs,_,_,_,rfl,rfl,SqL.of R6.vals,zei epp (by rw[gEm,hra];rfl),_,rfl,?_⟩
  dsimp only[zdf]
  refine twoIn (K:=K) (C:=fun _=>True) (f:=fun x y=>x+y) (s26 _ _ hra2) hq66 trivial (by omega) (by omega) fun q7 hq7=>?_
  have s7:=zl (o:=qT (Sp.get ps p.toNat+(g-(Sp.dget u a.toNat).1)/(Sp.dget u a.toNat).2 p.toNat)) hq7
  have hq77:upd H6 q7 (qT (Sp.get ps p.toNat+(g-(Sp.dget u a.toNat).1)/(Sp.dget u a.toNat).2 p.toNat)) q7=some (qT (Sp.get ps p.toNat+(g-(Sp.dget u a.toNat).1)/(Sp.dget u a.toNat).2 p.toNat)):=zd
  generalize upd H6 q7 (qT (Sp.get ps p.toNat+(g-(Sp.dget u a.toNat).1)/(Sp.dget u a.toNat).2 p.toNat))=H7 at s7 hq77⊢
  generalize Sp.get ps p.toNat+(g-(Sp.dget u a.toNat).1)/(Sp.dget u a.toNat).2 p.toNat=found at hq77 k'⊢
  have s07:zq H' H7:=s2.trans (s26.trans s7)
  refine⟨_,rfl,q7,_,_,rfl,SqT.of hq77,_,_,rfl,rfl,_,rfl,?_⟩
  refine zaZ (fun e=>?_) (fun e=>?_)
  ·have e4:Sp.LONG<Sp.wt found:=by
    have:=oDt e
    rw[zeS]
    show 1500<_
    omega
   rw[if_pos e4]at k'
   refine⟨zbC,fun l8 hl8=>?_⟩
   have s8:zq H' (upd H7 l8 (.lst [.int (-6)])):=s07.trans (zl hl8)
   exact k' _ l8 (BR.at_.same s8) (kk0.trans (zS.same s8)) zd
  have e4:¬Sp.LONG<Sp.wt found:=fun z=>e (decide_eq_true (by
   rw[zeS]at z
   have z':1500<bI found.num+bI (found.den:Int):=z
   omega))
  have e5:Sp.wt found<=1500:=by
   have:¬1500<Sp.wt found:=e4
   omega
  rw[if_neg e4]at k'
  obtain⟨d8,pa8,b8,r8,c8,rs8,ss8,ff8,n8,N8',bs8,qs8,ras8,sa8,fl8,BP8,C8,_⟩:=BR.same s07
  have hN8:N8'=N:=by rw[<-BP8.is.par,R.par]
  subst hN8
  refine⟨_,rfl,bk,d8,_,rfl,BP8.ins,za6 _ _,_,rfl,_,rfl,bk,d8,pa8,b8,r8,c8,rs8,ss8,ff8,n8,N8',bs8,qs8,ras8,sa8,fl8,m,ps,p.toNat,q7,found,(by rw[<-epp];rfl),BP8,C8,hq77,hpl,e5,fun H9 y rs9 sy fy say s9 hy hsy CT lensa=>?_⟩
  refine zHd ?_;intro
  obtain⟨dt,hct⟩:=CT.ins
  have V9:=C8.v15.set p.toNat e5
  refine⟨_,rfl,y,dt,_,rfl,hct,zaz _ _ _ _,_,rfl,y,r8,rs9,sy,fy,qs8,ps.set p.toNat found,m.plan,1,say,[],n8,N8',bs8,t.toNat,(by rw[<-et];rfl),CT,BP8.is,V9,by omega,by omega,fun H10 fy2 l10 sa3 fl3 C3 few3 kp3 hl3 hrdy3=>?_⟩
  have s10:zq H7 H10:=fun b' o hb=>kp3 b' o (s9 _ _ hb) (zk hb hy) (zk hb hsy)
  refine⟨_,.inl ⟨_,SqL.of hl3,rfl⟩,?_⟩
  cases ep2:Sp.zaj (ps.set p.toNat found) m.plan t.toNat with
  | error e=>
   have e6:zbO (ps.set p.toNat found) m.plan t.toNat=[(e.1.1:Int),(e.1.2:Int),(e.2:Int)]:=by unfold zbO;rw[ep2]
   rw[e6]
   simp only[ep2]at k'
   refine zaY ?_
   refine⟨zbC,fun l11 hl11=>?_⟩
   have s11:=zl (o:=.lst [.int 1]) hl11
   refine⟨_,rfl,zbC,fun l12 hl12=>?_⟩
   have s12:=zl (o:=.lst [.ref q7]) hl12
   refine⟨l11,l12,[1],[q7],[_],rfl,s12 _ _ zd,zd,.cons (s12 _ _ (s11 _ _ (s10 _ _ hq77))) .nil,(by show 1<=100;decide),(by show 1<=100;decide),fun H13 l13 s13 hl13 hl14=>?_⟩
   have s14:zq H' H13:=s07.trans (s10.trans (s11.trans (s12.trans s13)))
   exact k' H13 l13 (BR.at_.same s14) (kk0.trans (zS.same s14)) hl14
  | ok v=>
   have e6:zbO (ps.set p.toNat found) m.plan t.toNat=[]:=by unfold zbO;rw[ep2]
   have hlt3:=hrdy3 e6
   rw[e6]
   simp only[ep2]at k'
   refine zaT ?_
   refine⟨zbC,fun l11 hl11=>?_⟩
   have s11:=zl (o:=.lst [.int 2]) hl11
   have C4:=C3.same s11
   refine zHd ?_;intro
   obtain⟨dt3,hct3⟩:=C4.ins
   have SI:=C4.each t.toNat _ (gge hlt3)
   have hvl:v.length=n:=by rw[zgj t.toNat v ep2,BP8.is.beg,lmm,BP8.is.len,<-BP8.is.acc,R.acc]
   refine⟨_,rfl,_,rfl,y,dt3,_,rfl,hct3,zaz _ _ _ _,_,rfl,y,dt3,r8,rs9,sy,fy2,sa3,t.toNat,_,(by rw[<-et];rfl),hct3,C4.sheets,gge hlt3,?_⟩
   refine zHd ?_;intro
   obtain⟨_,_,_,_,_,_,S3,_⟩:=id SI
   obtain⟨dx3,_,hx3,_⟩:=S3.ins
   refine⟨_,dx3,_,rfl,hx3,zbJ _ _ _ _,_,rfl,?_⟩
   have am2 :∀(Q2:VK),QtQ (upd H10 l11 (.lst [.int 2])) (Sp.dget v a.toNat).1 Q2->zc6 A [.ref sa3[t.toNat],.int a] (upd H10 l11 (.lst [.int 2])) Q2 E0:=fun Q2 k2=>by rw[ea];exact SI.amountIn (E:=E0) ep2 (by omega) (by omega) k2
   refine am2 _ fun q12 H12 s12 hq12 hq13=>?_
   refine⟨szl2,fun l13 hl13=>?_⟩
   have s13:=zl (o:=.lst [.ref q7,.ref q12]) hl13
   refine⟨l11,l13,[2],[q7,q12],[_,_],rfl,s13 _ _ (s12 _ _ zd),zd,.cons (s13 _ _ (s12 _ _ (s11 _ _ (s10 _ _ hq77)))) (.cons (s13 _ _ hq13) .nil),(by show 1<=100;decide),(by show 2<=100;decide),fun H14 l14 s14 hl14 hl15=>?_⟩
   have s15:zq H' H14:=s07.trans (s10.trans (s11.trans (s12.trans (s13.trans s14))))
   exact k' H14 l14 (BR.at_.same s15) (kk0.trans (zS.same s15)) hl15
open VagraLine (Line told)
def fLC(P h:Int)(nu al:Addr):List (Str×V):=zK "account_lines" (.ref al) (zK "numbers" (.ref nu) (zK "how_many" (.int h) (zK "one" (.int (P+1)) (zK "zero" (.int P) []))))
section
variable (P h:Int)(nu al:Addr)
theorem zA7:(fLC P h nu al).lookup ("one" : Str)=some (V.int (P+1)):=by unfold fLC;simp only[zy];rfl
theorem zrz:(fLC P h nu al).lookup ("how_many" : Str)=some (V.int h):=by unfold fLC;simp only[zy];rfl
theorem zpe:(fLC P h nu al).lookup ("numbers" : Str)=some (V.ref nu):=by unfold fLC;simp only[zy];rfl
theorem zh1:(fLC P h nu al).lookup ("account_lines" : Str)=some (V.ref al):=by unfold fLC;simp only[zy];rfl
theorem zA8(h2:Int):zK "how_many" (.int h2) (fLC P h nu al)=fLC P h2 nu al:=rfl
theorem zdy{m:Str}(h1:m≠"account_lines":=by decide) (h2:m≠"numbers":=by decide) (h3:m≠"how_many":=by decide) (h4:m≠"one":=by decide) (h5:m≠"zero":=by decide):(fLC P h nu al).lookup m=none:=by unfold fLC;simp only[zy];rw[if_neg h1,if_neg h2,if_neg h3,if_neg h4,if_neg h5];rfl
end
def zeo(l:List Nat):List V:=(l.map Int.ofNat).map V.int
structure zfN(A:Ad)(H:Hp)(x nu al:Addr)(N:Nat)(c:VagraLine.Code)(ls:List Nat):Prop where
 ins :∃dx,H x=some (.ins A.zar dx (fLC (N:Int) (c.length:Int) nu al))
 num:H nu=some (.lst ((told c).map V.int))
 lin:H al=some (.lst (zeo ls))
 sep:nu≠al
theorem zll :∀(c:VagraLine.Code),(told c).length<=3*c.length
 | []=>nLr _
 | l::c=>by
  have h:=zll c
  have h2:l.told.length<=3:=by cases l<;>simp[Line.told]
  have e:told (l::c)=l.told++told c:=rfl
  rw[e,lEa,List.length_cons]
  omega
theorem zsN(c:VagraLine.Code)(l:Line):told (c++[l])=told c++l.told:=by
 unfold told
 rw[List.flatMap_append,List.flatMap_cons,List.flatMap_nil,List.append_nil]
inductive zv0(A:Ad)(vs:List V)(H:Hp)(Q:VK)(E:XK):Prop|I:∀(x nu al:Addr) (N:Nat) (c:VagraLine.Code) (ls:List Nat) (op i j:Int) (l:Line),vs=[.ref x,.int op,.int i,.int j]->zfN A H x nu al N c ls->c.length<=1000->l.told=[op,i,j]->(∀H',zfN A H' x nu al N (c++[l]) ls->(∀b o,H b=some o->b≠x->b≠nu->H' b=some o)->Q (.int (c.length:Int)) H')->zv0 A vs H Q E
theorem ziL(T:Txt K mg A):zH P w K mg base CX0 41 A.zf6 A.zfy ["self","operation","i","j"] (zv0 A):=by
 refine T.ziN.ok zot (fun _ _ _ _ h=>?_) fun _ _ _ s H vs Q E hr h=>?_
 ·obtain⟨x,nu,al,N,c,ls,op,i,j,l,rfl,_⟩:=h
  rfl
 ·obtain⟨x,nu,al,N,c,ls,op,i,j,l,rfl,C,hc,hl,k⟩:=h
  refine zQa (zay (zeh PySem.F.plainAttrs_list PySem.F.slot_list_extend PySem.F.type_list_extend zfh (zg (pv 0) rfl) (za (zL (za (pv 1) (za (pv 2) (za (pv 3) zc)))) zc))) (zQc (zmY (pv 0) zi ztI) (zQl (zh (zo (zW zp1 (zg (pv 0) rfl) zi))) ?_));intros
  obtain⟨dx,hx⟩:=C.ins
  have hle:=zll c
  refine⟨_,rfl,x,_,dx,_,_,rfl,hx,T.zN,T.zcv,zpe _ _ _ _,.inl ⟨rfl,_,SqL.of C.num⟩,_,rfl,_,rfl,_,rfl,szl3,fun z hz=>?_⟩
  have s1:zq H (upd H z (.lst [.int op,.int i,.int j])):=zl hz
  have nxn:x≠nu:=zI hx C.num (by intro z;cases z)
  refine⟨nu,z,_,_,rfl,rfl,s1 _ _ C.num,.inl zd,?_,?_⟩
  ·rw[lmm]
   show _+3<=sizeLine
   rw[sizeLine_eq]
   omega
  rw[show(told c).map V.int++[V.int op,V.int i,V.int j]=(told (c++[l])).map V.int by rw[zsN,hl,lMa];rfl]
  refine⟨_,rfl,x,_,dx,_,_,rfl,(by rw[zf nxn];exact s1 _ _ hx),T.zN,T.zc2,zrz _ _ _ _,_,_,rfl,rfl,dx,_,(by rw[zf nxn];exact s1 _ _ hx),(by show 5<1000;decide),?_⟩
  rw[zA8]
  refine⟨_,rfl,x,_,dx,_,_,rfl,zd,T.zN,T.zc2,zrz _ _ _ _,_,_,rfl,rfl,?_⟩
  dsimp only
  rw[show(c.length:Int)+1-1=(c.length:Int) by omega]
  have kp :∀b o,H b=some o->b≠x->b≠nu->upd (upd (upd H z (.lst [.int op,.int i,.int j])) nu (.lst ((told (c++[l])).map V.int))) x (.ins A.zar dx (fLC (N:Int) ((c.length:Int)+1) nu al)) b=some o:=fun b o hb h1 h2=>by
   rw[zf h1,zf h2]
   exact s1 _ _ hb
  refine k _ ⟨⟨dx,by rw[zd,lEa];rfl⟩,by rw[zf (fun z=>nxn z.symm),zd],kp _ _ C.lin (zI C.lin hx (by intro z;cases z)) (fun z=>C.sep z.symm),C.sep⟩ kp
inductive zuI(A:Ad)(vs:List V)(H:Hp)(Q:VK)(E:XK):Prop|I:∀(x nu al:Addr) (N:Nat) (c:VagraLine.Code) (ls:List Nat) (a:Nat) (op j:Int) (l:Line),vs=[.ref x,.int (a:Int),.int op,.int j]->zfN A H x nu al N c ls->a<ls.length->c.length<=1000->l.told=[op,(ls.getD a 0:Int),j]->(∀H',zfN A H' x nu al N (c++[l]) (ls.set a c.length)->(∀b o,H b=some o->b≠x->b≠nu->b≠al->H' b=some o)->Q .non H')->zuI A vs H Q E
theorem zjp(T:Txt K mg A):zH P w K mg base CX0 42 A.zdp A.zdk ["self","account","operation","line"] (zuI A):=by
 have zdm:=@ziL P w K mg base A T
 refine T.zfe.ok zjm (fun _ _ _ _ h=>?_) fun _ _ _ s H vs Q E hr h=>?_
 ·obtain⟨x,nu,al,N,c,ls,a,op,j,l,rfl,_⟩:=h
  rfl
 ·obtain⟨x,nu,al,N,c,ls,a,op,j,l,rfl,C,ha,hc,hl,k⟩:=h
  refine⟨_,(zh (zkX (zp (pv 0) T.zN T.zdM zdm hr T.zet .nil zj (za (pv 2) (za (zu zA (zg (pv 0) rfl) (pv 1) (fun _ _=>rfl)) (za (pv 3) zc)))) (zkW (zg (pv 0) rfl) (pv 1) zeV))),?_⟩
  obtain⟨dx,hx⟩:=C.ins
  have hla:(zeo ls)[a]? = some (V.int (ls.getD a 0:Int)):=by
   unfold zeo
   rw[gEm,gEm,gDm,gge ha]
   rfl
  refine⟨_,rfl,x,dx,_,rfl,hx,zdy _ _ _ _,_,rfl,_,rfl,x,_,dx,_,_,rfl,hx,T.zN,T.zbb,zh1 _ _ _ _,_,rfl,al,_,_,_,rfl,rfl,SqL.of C.lin,zb8 hla,_,rfl,x,nu,al,N,c,ls,op,_,j,l,rfl,C,hc,hl,fun H2 C2 kp=>?_⟩
  obtain⟨dx2,hx2⟩:=C2.ins
  refine⟨_,rfl,x,_,dx2,_,_,rfl,hx2,T.zN,T.zbb,zh1 _ _ _ _,_,rfl,al,_,(a:Int),a,rfl,rfl,C2.lin,zgh (by unfold zeo;rw[lmm,lmm];exact ha),?_⟩
  rw[show(zeo ls).set a (V.int (c.length:Int))=zeo (ls.set a c.length) by unfold zeo;rw[List.map_set,List.map_set];rfl]
  have nxa:x≠al:=zI hx2 C2.lin (by intro z;cases z)
  exact k _ ⟨⟨dx2,by rw[zf nxa];exact hx2⟩,by rw[zf C2.sep];exact C2.num,zd,C2.sep⟩ fun b o hb h1 h2 h3=>by rw[zf h3];exact kp b o hb h1 h2
open VagraLine (Line told)
theorem zom(md:Vagrao.Made)(un:Nat)(o:Nat×Nat)(a p:Nat):(md.rule un o (.grow a p)).code=(md.code++[Line.add un p])++[Line.mul (md.lines.getD a 0) md.code.length]/\(md.rule un o (.grow a p)).lines=md.lines.set a (md.code++[Line.add un p]).length:=by
 refine⟨?_,?_⟩<;>simp[Vagrao.Made.rule,Vagrao.Made.put,Vagrao.Made.now,Vagrao.Made.last,Vagrao.Made.line]
theorem zqM(md:Vagrao.Made)(un:Nat)(o:Nat×Nat)(a p:Nat):(md.rule un o (.pay a p)).code=md.code++[Line.sub (md.lines.getD a 0) p]/\(md.rule un o (.pay a p)).lines=md.lines.set a md.code.length:=by
 refine⟨?_,?_⟩<;>simp[Vagrao.Made.rule,Vagrao.Made.put,Vagrao.Made.now,Vagrao.Made.last,Vagrao.Made.line]
theorem zon(md:Vagrao.Made)(un:Nat)(o:Nat×Nat)(a p:Nat):(md.rule un o (.over a p)).code=md.code++[Line.div (md.lines.getD a 0) p]/\(md.rule un o (.over a p)).lines=md.lines.set a md.code.length:=by
 refine⟨?_,?_⟩<;>simp[Vagrao.Made.rule,Vagrao.Made.put,Vagrao.Made.now,Vagrao.Made.last,Vagrao.Made.line]
theorem zoo(md:Vagrao.Made)(un:Nat)(o:Nat×Nat)(a b p:Nat):(md.rule un o (.move a b p)).code=(md.code++[Line.sub (md.lines.getD a 0) p])++[Line.add ((md.lines.set a md.code.length).getD b 0) p]/\(md.rule un o (.move a b p)).lines=(md.lines.set a md.code.length).set b (md.code++[Line.sub (md.lines.getD a 0) p]).length:=by
 refine⟨?_,?_⟩<;>simp[Vagrao.Made.rule,Vagrao.Made.put,Vagrao.Made.now,Vagrao.Made.last,Vagrao.Made.line]
theorem zlZ(md:Vagrao.Made)(un:Nat)(o:Nat×Nat)(a b p:Nat):(md.rule un o (.share a b p)).code=((md.code++[Line.mul (md.lines.getD a 0) p])++[Line.sub (md.lines.getD a 0) md.code.length])++[Line.add ((md.lines.set a (md.code++[Line.mul (md.lines.getD a 0) p]).length).getD b 0) md.code.length]/\
  (md.rule un o (.share a b p)).lines=(md.lines.set a (md.code++[Line.mul (md.lines.getD a 0) p]).length).set b ((md.code++[Line.mul (md.lines.getD a 0) p])++[Line.sub (md.lines.getD a 0) md.code.length]).length:=by
 refine⟨?_,?_⟩<;>simp[Vagrao.Made.rule,Vagrao.Made.put,Vagrao.Made.now,Vagrao.Made.last,Vagrao.Made.line]
theorem zop(md:Vagrao.Made)(un:Nat)(o:Nat×Nat)(a b p:Nat):(md.rule un o (.pull a b p)).code=(md.code++[Line.mul (md.lines.getD b 0) p])++[Line.add (md.lines.getD a 0) md.code.length]/\(md.rule un o (.pull a b p)).lines=md.lines.set a (md.code++[Line.mul (md.lines.getD b 0) p]).length:=by
 refine⟨?_,?_⟩<;>simp[Vagrao.Made.rule,Vagrao.Made.put,Vagrao.Made.now,Vagrao.Made.last,Vagrao.Made.line]
inductive zxG(A:Ad)(vs:List V)(H:Hp)(Q:VK)(E:XK):Prop|I:∀(x nu al:Addr) (n N:Nat) (md:Vagrao.Made) (o:Nat×Nat) (u:Addr) (q:zav),vs=[.ref x,.ref u]->zfN A H x nu al N md.code md.lines->zeA A.zaH H u q->okQ n N q=true->md.lines.length=n->md.code.length<=900->(∀H',zfN A H' x nu al N (md.rule (N+1) o (zM q)).code (md.rule (N+1) o (zM q)).lines->(∀b o,H b=some o->b≠x->b≠nu->b≠al->H' b=some o)->Q .non H')->zxG A vs H Q E
theorem zku(T:Txt K mg A):zH P w K mg base CX0 43 A.zd9 A.zdJ ["self","rule"] (zxG A):=by
 have zdm:=(@ziL P w K mg base A T).up 42
 have zaP:=@zjp P w K mg base A T
 refine T.zfP.ok zdG (fun _ _ _ _ h=>?_) fun _ _ _ s H vs Q E hr h=>?_
 ·obtain⟨x,nu,al,n,N,md,o,u,q,rfl,_⟩:=h
  rfl
 obtain⟨x,nu,al,n,N,md,o,u,q,rfl,C,⟨du,hu⟩,hok,hls,hcl,k⟩:=h
 refine⟨_,(zh (zY (z5 zb0 (zg (pv 1) rfl) (zas rfl T.zB0) (nomark _)) (zh (zay (zp (pv 0) T.zN T.zaJ zaP hr T.zaO .nil zj (za (zg (pv 1) rfl) (za (zas rfl T.znZ) (za (zp (pv 0) T.zN T.zdM zdm hr T.zet .nil zj (za (zas rfl T.ztC) (za (zg (pv 0) rfl) (za (zg (pv 1) rfl) zc)))) zc)))))) (zh (zY (z5 zb0 (zg (pv 1) rfl) (zas rfl T.zCg) (nomark _)) (zh (zay (zp (pv 0) T.zN T.zaJ zaP hr T.zaO .nil zj (za (zg (pv 1) rfl) (za (zas rfl T.zjT) (za (zg (pv 1) rfl) zc)))))) (zh (zY (z5 zb0 (zg (pv 1) rfl) (zas rfl T.zB1) (nomark _)) (ze (zay (zp (pv 0) T.zN T.zaJ zaP hr T.zaO .nil zj (za (zg (pv 1) rfl) (za (zas rfl T.zjT) (za (zg (pv 1) rfl) zc)))))
  (zh (zay (zp (pv 0) T.zN T.zaJ zaP hr T.zaO .nil zj (za (zg (pv 1) rfl) (za (zas rfl T.ztC) (za (zg (pv 1) rfl) zc))))))) (zh (zY (z5 zb0 (zg (pv 1) rfl) (zas rfl T.zBh) (nomark _)) (ze (qD 2 zdG.nd (zp (pv 0) T.zN T.zdM zdm hr T.zet .nil zj (za (zas rfl T.znZ) (za (zu zA (zg (pv 0) rfl) (zg (pv 1) rfl) (fun _ _=>rfl)) (za (zg (pv 1) rfl) zc)))))
  (ze (zay (zp (pv 0) T.zN T.zaJ zaP hr T.zaO .nil zj (za (zg (pv 1) rfl) (za (zas rfl T.zjT) (za (pv 2) zc)))))
  (zh (zay (zp (pv 0) T.zN T.zaJ zaP hr T.zaO .nil zj (za (zg (pv 1) rfl) (za (zas rfl T.ztC) (za (pv 2) zc)))))))) (zh (zY (z5 zb0 (zg (pv 1) rfl) (zas rfl T.zB2) (nomark _)) (ze (qD 2 zdG.nd (zp (pv 0) T.zN T.zdM zdm hr T.zet .nil zj (za (zas rfl T.znZ) (za (zu zA (zg (pv 0) rfl) (zg (pv 1) rfl) (fun _ _=>rfl)) (za (zg (pv 1) rfl) zc)))))
  (zh (zay (zp (pv 0) T.zN T.zaJ zaP hr T.zaO .nil zj (za (zg (pv 1) rfl) (za (zas rfl T.ztC) (za (pv 2) zc))))))) (zh (zY (z5 zb0 (zg (pv 1) rfl) (zas rfl T.zy9) (nomark _)) (zh (zay (zp (pv 0) T.zN T.zaJ zaP hr T.zaO .nil zj (za (zg (pv 1) rfl) (za (zas rfl T.zxM) (za (zg (pv 1) rfl) zc)))))) zJ)))))))))))),?_⟩
 obtain⟨ok1,ok2,ok3,ok4,ok5,ok6⟩:=zpx hok
 obtain⟨dx,hx⟩:=C.ins
 have ea:q.a=((q.a.toNat:Nat):Int):=by omega
 have eb:q.b=((q.b.toNat:Nat):Int):=by omega
 have ep:q.p=((q.p.toNat:Nat):Int):=by omega
 have nux:u≠x:=zI hu hx (by
  intro z
  have z3:=congrArg (fun f=>List.lookup ("kind" : Str) f) (HO.ins.inj z).2.2
  simp only[zbE]at z3
  rw[zdy _ _ _ _]at z3
  cases z3)
 have nun:u≠nu:=zI hu C.num (by intro z;cases z)
 have nua:u≠al:=zI hu C.lin (by intro z;cases z)
 have no :∀(j:Int),q.k≠j->decide (V.int q.k=V.int j)=false:=fun j h=>decide_eq_false fun z=>h (V.int.inj z)
 have hk6:q.k=0\/q.k=1\/q.k=2\/q.k=3\/q.k=4\/q.k=5:=by omega
 have lat :∀(z:Int),0<=z->z<n->atI (zeo md.lines) z=some (V.int (md.lines.getD z.toNat 0:Int)):=fun z h1 h2=>by
  refine zei (by omega:z=((z.toNat:Nat):Int)) ?_
  unfold zeo
  rw[gEm,gEm,gDm,gge (by omega:z.toNat<md.lines.length)]
  rfl
 refine⟨_,rfl,u,_,du,_,_,rfl,hu,T.zG,T.zbK,zbE q,rfl,_,rfl,?_⟩
 refine zaZ (fun e=>?_) (fun n0=>?_)
 ·have e:q.k=0:=V.int.inj (oDt e)
  have er:zM q=.grow q.a.toNat q.p.toNat:=by unfold zM;rw[if_pos e]
  rw[er]at k
  rw[(zom md (N+1) o q.a.toNat q.p.toNat).1,(zom md (N+1) o q.a.toNat q.p.toNat).2]at k
  refine⟨_,rfl,x,dx,_,rfl,hx,zdy _ _ _ _,_,rfl,u,_,du,_,_,rfl,hu,T.zG,T.zaA,zba q,_,rfl,x,dx,_,rfl,hx,zdy _ _ _ _,_,rfl,x,_,dx,_,_,rfl,hx,T.zN,T.zkj,zA7 _ _ _ _,_,rfl,u,_,du,_,_,rfl,hu,T.zG,T.zbf,zca q,
   x,nu,al,N,md.code,md.lines,2,_,_,.add (N+1) q.p.toNat,rfl,C,by omega,(by show [2,((N+1:Nat):Int),((q.p.toNat:Nat):Int)]=_;rw[<-ep];rfl),fun H2 C2 kp2=>?_⟩
  refine⟨x,nu,al,N,_,md.lines,q.a.toNat,4,_,.mul (md.lines.getD q.a.toNat 0) md.code.length,(by rw[<-ea];rfl),C2,by omega,by rw[lEa];show _+1<=1000;omega,rfl,fun H3 C3 kp3=>?_⟩
  exact k H3 C3 fun b o hb h1 h2 h3=>kp3 b o (kp2 b o hb h1 h2) h1 h2 h3
 refine⟨_,rfl,u,_,du,_,_,rfl,hu,T.zG,T.zbK,zbE q,rfl,_,rfl,?_⟩
 refine zaZ (fun e=>?_) (fun n1=>?_)
 ·have e:q.k=1:=V.int.inj (oDt e)
  have er:zM q=.pay q.a.toNat q.p.toNat:=by unfold zM;rw[if_neg (by omega),if_pos e]
  rw[er]at k
  rw[(zqM md (N+1) o q.a.toNat q.p.toNat).1,(zqM md (N+1) o q.a.toNat q.p.toNat).2]at k
  refine⟨_,rfl,x,dx,_,rfl,hx,zdy _ _ _ _,_,rfl,u,_,du,_,_,rfl,hu,T.zG,T.zaA,zba q,_,rfl,u,_,du,_,_,rfl,hu,T.zG,T.zbf,zca q,
   x,nu,al,N,md.code,md.lines,q.a.toNat,3,_,.sub (md.lines.getD q.a.toNat 0) q.p.toNat,(by rw[<-ea];rfl),C,by omega,by omega,(by show [3,_,((q.p.toNat:Nat):Int)]=_;rw[<-ep]),fun H3 C3 kp3=>?_⟩
  exact k H3 C3 kp3
 refine⟨_,rfl,u,_,du,_,_,rfl,hu,T.zG,T.zbK,zbE q,rfl,_,rfl,?_⟩
 refine zaZ (fun e=>?_) (fun n2=>?_)
 ·have e:q.k=2:=V.int.inj (oDt e)
  have er:zM q=.move q.a.toNat q.b.toNat q.p.toNat:=by unfold zM;rw[if_neg (by omega),if_neg (by omega),if_pos e]
  rw[er]at k
  rw[(zoo md (N+1) o q.a.toNat q.b.toNat q.p.toNat).1,(zoo md (N+1) o q.a.toNat q.b.toNat q.p.toNat).2]at k
  refine⟨_,rfl,x,dx,_,rfl,hx,zdy _ _ _ _,_,rfl,u,_,du,_,_,rfl,hu,T.zG,T.zaA,zba q,_,rfl,u,_,du,_,_,rfl,hu,T.zG,T.zbf,zca q,
   x,nu,al,N,md.code,md.lines,q.a.toNat,3,_,.sub (md.lines.getD q.a.toNat 0) q.p.toNat,(by rw[<-ea];rfl),C,by omega,by omega,(by show [3,_,((q.p.toNat:Nat):Int)]=_;rw[<-ep]),fun H2 C2 kp2=>?_⟩
  obtain⟨dx2,hx2⟩:=C2.ins
  have hu2:=kp2 _ _ hu nux nun nua
  refine⟨_,rfl,x,dx2,_,rfl,hx2,zdy _ _ _ _,_,rfl,u,_,du,_,_,rfl,hu2,T.zG,T.zcM,zeG q,_,rfl,u,_,du,_,_,rfl,hu2,T.zG,T.zbf,zca q,
   x,nu,al,N,_,_,q.b.toNat,2,_,.add ((md.lines.set q.a.toNat md.code.length).getD q.b.toNat 0) q.p.toNat,(by rw[<-eb];rfl),C2,by rw[List.length_set];omega,by rw[lEa];show _+1<=1000;omega,(by show [2,_,((q.p.toNat:Nat):Int)]=_;rw[<-ep]),fun H3 C3 kp3=>?_⟩
  exact k H3 C3 fun b o hb h1 h2 h3=>kp3 b o (kp2 b o hb h1 h2 h3) h1 h2 h3
 refine⟨_,rfl,u,_,du,_,_,rfl,hu,T.zG,T.zbK,zbE q,rfl,_,rfl,?_⟩
 refine zaZ (fun e=>?_) (fun n3=>?_)
 ·have e:q.k=3:=V.int.inj (oDt e)
  have er:zM q=.share q.a.toNat q.b.toNat q.p.toNat:=by unfold zM;rw[if_neg (by omega),if_neg (by omega),if_neg (by omega),if_pos e]
  rw[er]at k
  rw[(zlZ md (N+1) o q.a.toNat q.b.toNat q.p.toNat).1,(zlZ md (N+1) o q.a.toNat q.b.toNat q.p.toNat).2]at k
  refine⟨_,rfl,x,dx,_,rfl,hx,zdy _ _ _ _,_,rfl,x,_,dx,_,_,rfl,hx,T.zN,T.zbb,zh1 _ _ _ _,_,rfl,u,_,du,_,_,rfl,hu,T.zG,T.zaA,zba q,al,_,_,_,rfl,rfl,SqL.of C.lin,lat q.a ok3.1 ok3.2,_,rfl,u,_,du,_,_,rfl,hu,T.zG,T.zbf,zca q,
   x,nu,al,N,md.code,md.lines,4,_,_,.mul (md.lines.getD q.a.toNat 0) q.p.toNat,rfl,C,by omega,(by show [4,_,((q.p.toNat:Nat):Int)]=_;rw[<-ep]),fun H2 C2 kp2=>?_⟩
  obtain⟨dx2,hx2⟩:=C2.ins
  have hu2:=kp2 _ _ hu nux nun
  refine⟨_,rfl,x,dx2,_,rfl,hx2,zdy _ _ _ _,_,rfl,u,_,du,_,_,rfl,hu2,T.zG,T.zaA,zba q,_,rfl,
   x,nu,al,N,_,_,q.a.toNat,3,_,.sub (md.lines.getD q.a.toNat 0) md.code.length,(by rw[<-ea];rfl),C2,by omega,by rw[lEa];show _+1<=1000;omega,rfl,fun H3 C3 kp3=>?_⟩
  obtain⟨dx3,hx3⟩:=C3.ins
  have hu3:=kp3 _ _ hu2 nux nun nua
  refine⟨_,rfl,x,dx3,_,rfl,hx3,zdy _ _ _ _,_,rfl,u,_,du,_,_,rfl,hu3,T.zG,T.zcM,zeG q,_,rfl,
   x,nu,al,N,_,_,q.b.toNat,2,_,.add ((md.lines.set q.a.toNat (md.code++[Line.mul (md.lines.getD q.a.toNat 0) q.p.toNat]).length).getD q.b.toNat 0) md.code.length,(by rw[<-eb];rfl),C3,by rw[List.length_set];omega,by rw[lEa,lEa];show _+1+1<=1000;omega,rfl,fun H4 C4 kp4=>?_⟩
  exact k H4 C4 fun b o hb h1 h2 h3=>kp4 b o (kp3 b o (kp2 b o hb h1 h2) h1 h2 h3) h1 h2 h3
 refine⟨_,rfl,u,_,du,_,_,rfl,hu,T.zG,T.zbK,zbE q,rfl,_,rfl,?_⟩
 refine zaZ (fun e=>?_) (fun n4=>?_)
 ·have e:q.k=4:=V.int.inj (oDt e)
  have er:zM q=.pull q.a.toNat q.b.toNat q.p.toNat:=by unfold zM;rw[if_neg (by omega),if_neg (by omega),if_neg (by omega),if_neg (by omega),if_pos e]
  rw[er]at k
  rw[(zop md (N+1) o q.a.toNat q.b.toNat q.p.toNat).1,(zop md (N+1) o q.a.toNat q.b.toNat q.p.toNat).2]at k
  refine⟨_,rfl,x,dx,_,rfl,hx,zdy _ _ _ _,_,rfl,x,_,dx,_,_,rfl,hx,T.zN,T.zbb,zh1 _ _ _ _,_,rfl,u,_,du,_,_,rfl,hu,T.zG,T.zcM,zeG q,al,_,_,_,rfl,rfl,SqL.of C.lin,lat q.b ok4.1 ok4.2,_,rfl,u,_,du,_,_,rfl,hu,T.zG,T.zbf,zca q,
   x,nu,al,N,md.code,md.lines,4,_,_,.mul (md.lines.getD q.b.toNat 0) q.p.toNat,rfl,C,by omega,(by show [4,_,((q.p.toNat:Nat):Int)]=_;rw[<-ep]),fun H2 C2 kp2=>?_⟩
  obtain⟨dx2,hx2⟩:=C2.ins
  have hu2:=kp2 _ _ hu nux nun
  refine⟨_,rfl,x,dx2,_,rfl,hx2,zdy _ _ _ _,_,rfl,u,_,du,_,_,rfl,hu2,T.zG,T.zaA,zba q,_,rfl,
   x,nu,al,N,_,_,q.a.toNat,2,_,.add (md.lines.getD q.a.toNat 0) md.code.length,(by rw[<-ea];rfl),C2,by omega,by rw[lEa];show _+1<=1000;omega,rfl,fun H3 C3 kp3=>?_⟩
  exact k H3 C3 fun b o hb h1 h2 h3=>kp3 b o (kp2 b o hb h1 h2) h1 h2 h3
 refine⟨_,rfl,u,_,du,_,_,rfl,hu,T.zG,T.zbK,zbE q,rfl,_,rfl,?_⟩
 refine zaZ (fun e=>?_) (fun n5=>?_)
 ·have e:q.k=5:=V.int.inj (oDt e)
  have er:zM q=.over q.a.toNat q.p.toNat:=by unfold zM;rw[if_neg (by omega),if_neg (by omega),if_neg (by omega),if_neg (by omega),if_neg (by omega)]
  rw[er]at k
  rw[(zon md (N+1) o q.a.toNat q.p.toNat).1,(zon md (N+1) o q.a.toNat q.p.toNat).2]at k
  refine⟨_,rfl,x,dx,_,rfl,hx,zdy _ _ _ _,_,rfl,u,_,du,_,_,rfl,hu,T.zG,T.zaA,zba q,_,rfl,u,_,du,_,_,rfl,hu,T.zG,T.zbf,zca q,
   x,nu,al,N,md.code,md.lines,q.a.toNat,5,_,.div (md.lines.getD q.a.toNat 0) q.p.toNat,(by rw[<-ea];rfl),C,by omega,by omega,(by show [5,_,((q.p.toNat:Nat):Int)]=_;rw[<-ep]),fun H3 C3 kp3=>?_⟩
  exact k H3 C3 kp3
 rcases hk6 with e|e|e|e|e|e
 ·exact absurd (decide_eq_true (congrArg V.int e)) n0
 ·exact absurd (decide_eq_true (congrArg V.int e)) n1
 ·exact absurd (decide_eq_true (congrArg V.int e)) n2
 ·exact absurd (decide_eq_true (congrArg V.int e)) n3
 ·exact absurd (decide_eq_true (congrArg V.int e)) n4
 ·exact absurd (decide_eq_true (congrArg V.int e)) n5
open VagraLine (Line told)
def fLC3(P h:Int):List (Str×V):=zK "how_many" (.int h) (zK "one" (.int (P+1)) (zK "zero" (.int P) []))
def fLC4(P h:Int)(nu:Addr):List (Str×V):=zK "numbers" (.ref nu) (fLC3 P h)
theorem znC(P h:Int)(nu:Addr):(fLC4 P h nu).lookup ("numbers" : Str)=some (V.ref nu):=by unfold fLC4 fLC3;simp only[zy];rfl
theorem zy5(P h:Int)(nu:Addr):(fLC4 P h nu).lookup ("zero" : Str)=some (V.int P):=by unfold fLC4 fLC3;simp only[zy];rfl
def zhF(N:Nat):VagraLine.Code:=(List.range N).map Line.input++[.num Vagraa.zero,.num Vagraa.one]
def begN(N:Nat)(y:Int):Nat:=if y<0 then N else y.toNat
inductive zxH(A:Ad)(vs:List V)(H:Hp)(Q:VK)(E:XK):Prop|I:∀(x dx pl b r:Addr) (n N:Nat) (bs:List Int),vs=[.ref x,.ref pl]->H x=some (.ins A.zar dx [])->zd4 A.zbY H pl n N b r->H b=some (.lst (bs.map V.int))->N<=8->bs.length<=50->(∀(H':Hp) (nu al:Addr),zfN A H' x nu al N (zhF N) (bs.map (begN N))->H nu=none->H al=none->(∀b o,H b=some o->b≠x->H' b=some o)->Q .non H')->zxH A vs H Q E
theorem zpE(T:Txt K mg A):zH P w K mg base CX0 41 A.zgM A.zf5 ["self","plan"] (zxH A):=by
 refine T.zjQ.ok zem (fun _ _ _ _ h=>?_) fun _ _ _ s H vs Q E hr h=>?_
 ·obtain⟨x,dx,pl,b,r,n,N,bs,rfl,_⟩:=h
  rfl
 obtain⟨x,dx,pl,b,r,n,N,bs,rfl,hx,⟨dp,hpl⟩,hb,hN,hbl,k⟩:=h
 refine zQa (zaX (pv 0) (zg (pv 1) rfl) rfl) (zQc (zaX (pv 0) (zW zb7 (zg (pv 1) rfl) zi) rfl) (zQc (zaX (pv 0) (zW zb7 (zg (pv 1) rfl) zi) rfl) (zQc (zaX (pv 0) (zL zc) rfl) (zQc (zde PassesOwn.never rfl (zc3 rfl T.zcW (za (zg (pv 1) rfl) zc)) (zag (i:=2) zem.nd rfl (Or.inl rfl)) (zh (zay (zeh PySem.F.plainAttrs_list PySem.F.slot_list_extend PySem.F.type_list_extend zfh (zg (pv 0) rfl) (za (zL (za (zas rfl T.zBi) (za (pv 2) zc))) zc))))) (zQc (zay (zeh PySem.F.plainAttrs_list PySem.F.slot_list_extend PySem.F.type_list_extend zfh (zg (pv 0) rfl) (za (zL (za (zas rfl T.zqV) (za zi (za zi (za (zas rfl T.zqV) (za zi (za zi zc))))))) zc))) (zQl (zh (zaX (pv 0) (zfR (te:=tIf (tTest (tOp (rI0 fun i j=>.bl (decide (i<j))) (zbd 3) (tC (.int 0)))) (tFld K (zbd 0) "zero") (zbd 3)) rfl zem.nd (zdP (zg (pv 1) rfl)) (zbQ (own:=[("begin",3)]) (by rfl)) (fun _ _ _ _ _=>(zag (i:=3) zem.nd rfl (Or.inl rfl))) (fun _ _ _ _ _=>zcq) (fun _ _ _ _ _=>(zlF (z5 zgq (pv 3) zi (nomark _)) (zg (pv 0) rfl) (pv 3)))) rfl)) ?_))))));intros
 have npx:pl≠x:=zI hpl hx (by
  intro z
  have z3:=congrArg (fun f=>List.lookup ("accounts" : Str) f) (HO.ins.inj z).2.2
  simp only[zby]at z3
  cases z3)
 have nbx:b≠x:=zI hb hx (by intro z;cases z)
 have hp1 :∀i,upd H x i pl=some (.ins A.zbY dp (zcP (n:Int) (N:Int) b r)):=fun i=>by rw[zf npx];exact hpl
 refine⟨_,rfl,pl,_,dp,_,_,rfl,hpl,T.zaI,T.zac,zaw _ _ _ _,_,rfl,x,_,dx,_,rfl,hx,T.zN,T.zjS,(by show 0<1000;decide),?_⟩
 refine⟨_,rfl,pl,_,dp,_,_,rfl,hp1 _,T.zaI,T.zac,zaw _ _ _ _,_,_,rfl,rfl,_,rfl,x,_,dx,_,rfl,zd,T.zN,T.zkj,(by show 1<1000;decide),?_⟩
 rw[zaS]
 refine⟨_,rfl,pl,_,dp,_,_,rfl,hp1 _,T.zaI,T.zac,zaw _ _ _ _,_,_,rfl,rfl,_,rfl,x,_,dx,_,rfl,zd,T.zN,T.zc2,(by show 2<1000;decide),?_⟩
 rw[zaS]
 refine⟨Nat.zero_le _,fun nu hnu=>?_⟩
 have nxn:x≠nu:=fun z=>by rw[<-z,zd]at hnu;cases hnu
 have nnx:nu≠x:=fun z=>nxn z.symm
 have hnuH:H nu=none:=by rw[zf nnx]at hnu;exact hnu
 refine⟨_,rfl,x,_,dx,_,rfl,(by rw[zf nxn,zd]),T.zN,T.zcv,(by show 3<1000;decide),?_⟩
 have kp0 :∀b' o,H b'=some o->b'≠x->upd (upd (upd H x (.ins A.zar dx (zK "how_many" (.int ((N:Int)+2)) (zK "one" (.int ((N:Int)+1)) (zK "zero" (.int (N:Int)) []))))) nu (.lst [])) x (.ins A.zar dx (zK "numbers" (.ref nu) (zK "how_many" (.int ((N:Int)+2)) (zK "one" (.int ((N:Int)+1)) (zK "zero" (.int (N:Int)) []))))) b'=some o:=fun b' o hb' hn=>by
  rw[zf hn,zf (zk hb' hnuH),zf hn]
  exact hb'
 have hx0:upd (upd (upd H x (.ins A.zar dx (zK "how_many" (.int ((N:Int)+2)) (zK "one" (.int ((N:Int)+1)) (zK "zero" (.int (N:Int)) []))))) nu (.lst [])) x (.ins A.zar dx (zK "numbers" (.ref nu) (zK "how_many" (.int ((N:Int)+2)) (zK "one" (.int ((N:Int)+1)) (zK "zero" (.int (N:Int)) []))))) x=some (.ins A.zar dx (fLC4 (N:Int) ((N:Int)+2) nu)):=zd
 have hn0:upd (upd (upd H x (.ins A.zar dx (zK "how_many" (.int ((N:Int)+2)) (zK "one" (.int ((N:Int)+1)) (zK "zero" (.int (N:Int)) []))))) nu (.lst [])) x (.ins A.zar dx (zK "numbers" (.ref nu) (zK "how_many" (.int ((N:Int)+2)) (zK "one" (.int ((N:Int)+1)) (zK "zero" (.int (N:Int)) []))))) nu=some (.lst []):=by rw[zf nnx,zd]
 dsimp only
 generalize upd (upd (upd H x (.ins A.zar dx (zK "how_many" (.int ((N:Int)+2)) (zK "one" (.int ((N:Int)+1)) (zK "zero" (.int (N:Int)) []))))) nu (.lst [])) x (.ins A.zar dx (zK "numbers" (.ref nu) (zK "how_many" (.int ((N:Int)+2)) (zK "one" (.int ((N:Int)+1)) (zK "zero" (.int (N:Int)) [])))))=H0 at kp0 hx0 hn0⊢
 refine⟨_,rfl,pl,_,dp,_,_,rfl,kp0 _ _ hpl npx,T.zaI,T.zac,zaw _ _ _ _,(N:Int),rfl,by omega,by omega,?_⟩
 rw[Int.toNat_natCast]
 refine zhJ (fun i σ H1=>(∃v2,σ = [some (.ref x),some (.ref pl),v2,none])/\(∀b' o,H0 b'=some o->b'≠nu->H1 b'=some o)/\H1 nu=some (.lst ((told ((List.range i).map Line.input)).map V.int)))
  ⟨⟨none,rfl⟩,fun b' o hb' _=>hb',hn0⟩ ?_ ?_
 ·rintro i σ H1 hi ⟨⟨v2,rfl⟩,kp1,hn1⟩
  have hx1:=kp1 _ _ hx0 nxn
  refine⟨_,rfl,x,_,dx,_,_,rfl,hx1,T.zN,T.zcv,znC _ _ _,.inl ⟨rfl,_,SqL.of hn1⟩,_,rfl,szl2,fun z hz=>?_⟩
  have s1:=zl (o:=.lst [.int 0,.int (0+(i:Int))]) hz
  refine⟨nu,z,_,_,rfl,rfl,s1 _ _ hn1,.inl zd,?_,?_⟩
  ·rw[lmm]
   have:=zll ((List.range i).map Line.input)
   rw[lmm,List.length_range]at this
   show _+2<=sizeLine
   rw[sizeLine_eq]
   omega
  ·refine⟨⟨_,rfl⟩,fun b' o hb' hn=>by rw[zf hn];exact s1 _ _ (kp1 _ _ hb' hn),?_⟩
   rw[zd,List.range_succ,lMa,show [i].map Line.input=[Line.input i]from rfl,zsN,lMa,Int.zero_add]
   rfl
 ·rintro σ H1 ⟨⟨v2,rfl⟩,kp1,hn1⟩
  have hx1:=kp1 _ _ hx0 nxn
  have htl:=zll ((List.range N).map Line.input)
  rw[lmm,List.length_range]at htl
  refine⟨_,rfl,x,_,dx,_,_,rfl,hx1,T.zN,T.zcv,znC _ _ _,.inl ⟨rfl,_,SqL.of hn1⟩,szl6,fun z hz=>?_⟩
  have s1:=zl (o:=.lst [.int 1,.int 0,.int 1,.int 1,.int 1,.int 1]) hz
  refine⟨nu,z,_,_,rfl,rfl,s1 _ _ hn1,.inl zd,?_,?_⟩
  ·rw[lmm]
   show _+6<=sizeLine
   rw[sizeLine_eq]
   omega
  rw[show(told ((List.range N).map Line.input)).map V.int++[V.int 1,V.int 0,V.int 1,V.int 1,V.int 1,V.int 1]=(told (zhF N)).map V.int by
   unfold zhF told
   rw[List.flatMap_append,lMa]
   rfl]
  have kp2 :∀b' o,H0 b'=some o->b'≠nu->upd (upd H1 z (.lst [.int 1,.int 0,.int 1,.int 1,.int 1,.int 1])) nu (.lst ((told (zhF N)).map V.int)) b'=some o:=fun b' o hb' hn=>by rw[zf hn];exact s1 _ _ (kp1 _ _ hb' hn)
  have hn2:upd (upd H1 z (.lst [.int 1,.int 0,.int 1,.int 1,.int 1,.int 1])) nu (.lst ((told (zhF N)).map V.int)) nu=some (.lst ((told (zhF N)).map V.int)):=zd
  generalize upd (upd H1 z (.lst [.int 1,.int 0,.int 1,.int 1,.int 1,.int 1])) nu (.lst ((told (zhF N)).map V.int))=H2 at kp2 hn2⊢
  have hx2:=kp2 _ _ hx0 nxn
  have npn:pl≠nu:=zk hpl hnuH
  have nbn:b≠nu:=zk hb hnuH
  have hb2:=kp2 _ _ (kp0 _ _ hb nbx) nbn
  refine⟨_,rfl,pl,_,dp,_,_,rfl,kp2 _ _ (kp0 _ _ hpl npx) npn,T.zaI,T.zhu,zny _ _ _ _,b,rfl,⟨_,SqL.of hb2⟩,fun D hD=>?_⟩
  refine zgc (K:=K) (a:=b) (xs:=bs.map V.int) (fun i H3=>zq H2 H3/\H3 D=some (.lst (zeo ((bs.map (begN N)).take i)))) ⟨zl hD,zd⟩ (fun i H3 _ ⟨s,_⟩=>s.seq (SqL.of hb2)) ?_ ?_
  ·rintro i v H3 hv ⟨s3,hD3⟩
   obtain⟨y,hy,rfl⟩:=zgC hv
   have hi:i<bs.length:=(List.getElem?_eq_some_iff.mp hy).1
   have hyi:(bs.map (begN N))[i]? = some (begN N y):=by rw[gEm,hy];rfl
   have fin :∃acc,H3 D=some (.lst acc)/\acc.length<sizeLine/\zq H2 (upd H3 D (.lst (acc++[V.int (begN N y:Int)])))/\upd H3 D (.lst (acc++[V.int (begN N y:Int)])) D=some (.lst (zeo ((bs.map (begN N)).take (i+1)))):=by
    refine⟨_,hD3,?_,fun c o hc=>by rw[zf (zk hc hD)];exact s3 _ _ hc,?_⟩
    ·unfold zeo
     rw[lmm,lmm,List.length_take]
     exact zbe (by omega)
    ·rw[zd,Pr.zab hyi]
     unfold zeo
     rw[lMa,lMa]
     rfl
   refine⟨rfl,_,rfl,_,_,rfl,rfl,_,rfl,?_⟩
   refine zaZ (fun e=>?_) (fun e=>?_)
   ·have e1:y<0:=oDt e
    rw[show begN N y=N from if_pos e1]at fin
    exact⟨_,rfl,x,_,dx,_,_,rfl,s3 _ _ hx2,T.zN,T.zjS,zy5 _ _ _,fin⟩
   ·have e1:¬y<0:=fun z=>e (decide_eq_true z)
    rw[show((begN N y:Nat):Int)=y by rw[show begN N y=y.toNat from if_neg e1];omega]at fin
    exact⟨_,rfl,fin⟩
  ·rintro H3 ⟨s3,hD3⟩
   rw[tOl (by rw[lmm,lmm];exact nLr _)]at hD3
   have hx3:=s3 _ _ hx2
   have nDx:D≠x:=fun z=>by rw[z,hx2]at hD;cases hD
   have nDn:D≠nu:=fun z=>by rw[z,hn2]at hD;cases hD
   have hDH:H D=none:=by
    cases e:H D with
    | none=>rfl
    | some o=>rw[kp2 _ _ (kp0 _ _ e nDx) nDn]at hD;cases hD
   refine⟨_,rfl,x,_,dx,_,rfl,hx3,T.zN,T.zbb,(by show 4<1000;decide),?_⟩
   have nnD:nu≠D:=fun z=>nDn z.symm
   refine k _ nu D ⟨⟨dx,?_⟩,by rw[zf nnx];exact s3 _ _ hn2,by rw[zf nDx];exact hD3,nnD⟩ hnuH hDH fun b' o hb' hn=>?_
   ·rw[zd,show(zhF N).length=N+2 by unfold zhF;rw[lEa,lmm,List.length_range];rfl]
    rfl
   ·rw[zf hn]
    exact s3 _ _ (kp2 _ _ (kp0 _ _ hb' hn) (zk hb' hnuH))
open VagraLine (Line told)
theorem zBV(md:Vagrao.Made)(un:Nat)(o:Nat×Nat)(r:Vagrao.Rule):(md.rule un o r).code.length<=md.code.length+3/\(md.rule un o r).lines.length=md.lines.length:=by
 cases r with
 | grow a p=>rw[(zom md un o a p).1,(zom md un o a p).2];simp
 | pay a p=>rw[(zqM md un o a p).1,(zqM md un o a p).2];simp
 | move a b p=>rw[(zoo md un o a b p).1,(zoo md un o a b p).2];simp
 | share a b p=>rw[(zlZ md un o a b p).1,(zlZ md un o a b p).2];simp
 | pull a b p=>rw[(zop md un o a b p).1,(zop md un o a b p).2];simp
 | over a p=>rw[(zon md un o a p).1,(zon md un o a p).2];simp
def zgG(un t:Nat)(rules:List Vagrao.Rule)(md:Vagrao.Made)(j:Nat):Vagrao.Made:=(rules.zipIdx.take j).foldl (fun m r=>m.rule un (t,r.2+1) r.1) md
theorem zxI{un t:Nat}{rules:List Vagrao.Rule}{md:Vagrao.Made}{j:Nat}{r:Vagrao.Rule}(h:rules[j]? = some r):zgG un t rules md (j+1)=(zgG un t rules md j).rule un (t,j+1) r:=by
 unfold zgG
 have e:rules.zipIdx[j]? = some (r,j):=by
  rw[List.getElem?_zipIdx,h]
  simp
 rw[Pr.zab e,List.foldl_append]
 rfl
theorem zsO(un t:Nat)(rules:List Vagrao.Rule)(md:Vagrao.Made):zgG un t rules md rules.length=md.period un t rules:=by
 unfold zgG Vagrao.Made.period
 rw[tOl (by rw[List.length_zipIdx];exact nLr _)]
theorem zeX(p:Vagrao.Plan)(t:Nat):p.made (t+1)=(p.made t).period (p.params+1) (t+1) p.rules:=by
 unfold Vagrao.Plan.made
 rw[List.range_succ,List.foldl_append]
 rfl
inductive zuJ(A:Ad)(vs:List V)(H:Hp)(Q:VK)(E:XK):Prop|I:∀(pl b r:Addr) (n N:Nat) (bs:List Int) (qs:List zav) (ras:List Addr) (p:Vagrao.Plan) (t:Nat),vs=[.ref pl,.int (t:Int)]->zd4 A.zbY H pl n N b r->H b=some (.lst (bs.map V.int))->H r=some (.lst (ras.map V.ref))->zT A.zaH H ras qs->ze2 n N bs qs p->t<=20->IntsQ H (Sp.codeR p t) Q->zuJ A vs H Q E
theorem zuK(T:Txt K mg A):zH P w K mg base CX0 44 A.zkE A.zjB ["plan","t"] (zuJ A):=by
 have zlE:=@zku P w K mg base A T
 have zq1:=(@zpE P w K mg base A T).up 42
 refine T.zjR.ok zgz (fun _ _ _ _ h=>?_) fun _ _ _ s H vs Q E hr h=>?_
 ·obtain⟨pl,b,r,n,N,bs,qs,ras,p,t,rfl,_⟩:=h
  rfl
 obtain⟨pl,b,r,n,N,bs,qs,ras,p,t,rfl,hplan,hb,hr1,hras,PI0,ht,k⟩:=h
 refine zQa (qD 2 zgz.nd (zc8 T.zv8 zq1 hr rfl T.zv3 T.zqZ .nil zj (za (pv 0) zc))) (zQc (zde PassesOwn.never rfl (zc3 rfl T.zcW (za (pv 1) zc)) (zag (i:=3) zgz.nd rfl (Or.inl rfl)) (zh (zde PassesOwn.never rfl (zdP (zg (pv 0) rfl)) (zag (i:=4) zgz.nd rfl (Or.inl rfl)) (zh (zay (zp (pv 2) T.zN T.zkQ zlE hr T.zlB .nil zj (za (pv 4) zc))))))) (zQl (zh (zo (zW ztM (zW ztM (zL (za (zg (pv 2) rfl) zc)) (zg (pv 2) rfl)) (zg (pv 2) rfl)))) ?_));intros
 have few:=PI0.few
 have hpar:=PI0.par
 obtain⟨dp,hpl⟩:=id hplan
 refine⟨_,rfl,?_⟩
 intro x dx hx hdx hne
 have sp1:=zry (i:=.ins A.zar dx []) hx hdx
 refine⟨x,dx,pl,b,r,n,N,bs,rfl,zd,hplan.same sp1,sp1 _ _ hb,few.2.1,by have:=PI0.len;omega,fun H2 nu al C0 hnu0 hal0 kpx=>⟨rfl,?_⟩⟩
 have s2:zq H H2:=zlY hx hdx kpx
 have hnu:=ziT hnu0
 have hal:=ziT hal0
 have efirst:zfN A H2 x nu al N (p.made 0).code (p.made 0).lines:=by
  have e1:(p.made 0).code=zhF N:=by
   show(List.range p.params).map Line.input++_=_
   rw[hpar];rfl
  have e2:(p.made 0).lines=bs.map (begN N):=by
   show p.begins.map (fun b=>b.getD p.params)=_
   rw[PI0.beg,hpar,List.map_map]
   refine List.map_congr_left fun y _=>?_
   show(zcd y).getD N=begN N y
   unfold zcd begN
   split<;>rfl
  rw[e1,e2]
  exact C0
 have hlines0:(p.made 0).lines.length=n:=by
  show(p.begins.map _).length=n
  rw[lmm,PI0.beg,lmm,PI0.len]
 have hcode0:(p.made 0).code.length=N+2:=by
  show((List.range p.params).map Line.input++_).length=_
  rw[hpar,lEa,lmm,List.length_range];rfl
 have hrl:p.rules.length=ras.length:=by rw[PI0.rul,lmm,hras.length]
 have hql:=hras.length
 refine⟨_,rfl,(t:Int),rfl,by omega,by omega,?_⟩
 rw[Int.toNat_natCast]
 refine zhJ (fun i σ H3=>(∃v3 v4,σ = [some (.ref pl),some (.int (t:Int)),some (.ref x),v3,v4])/\zq H H3/\zfN A H3 x nu al N (p.made i).code (p.made i).lines/\(p.made i).lines.length=n/\(p.made i).code.length<=N+2+30*i)
  ⟨⟨none,none,rfl⟩,s2,efirst,hlines0,by omega⟩ ?_ ?_
 ·rintro i σ H3 hi ⟨⟨v3,v4,rfl⟩,s3,C3,hl3,hc3⟩
  refine⟨_,rfl,pl,_,dp,_,_,rfl,s3 _ _ hpl,T.zaI,T.zfY,zkt _ _ _ _,r,rfl,⟨_,SqL.of (s3 _ _ hr1)⟩,?_⟩
  refine zpn (K:=K) (a:=r) (xs:=ras.map V.ref) (fun j σ H4=>(∃v3 v4,σ = [some (.ref pl),some (.int (t:Int)),some (.ref x),v3,v4])/\zq H H4/\zfN A H4 x nu al N (zgG (N+1) (i+1) p.rules (p.made i) j).code (zgG (N+1) (i+1) p.rules (p.made i) j).lines/\(zgG (N+1) (i+1) p.rules (p.made i) j).lines.length=n/\(zgG (N+1) (i+1) p.rules (p.made i) j).code.length<=N+2+30*i+3*j)
   ⟨⟨_,_,rfl⟩,s3,C3,hl3,hc3⟩ (fun j σ H4 _ ⟨_,s,_⟩=>SqL.of (s _ _ hr1)) ?_ ?_
  ·rintro j v σ H4 hv ⟨⟨v3,v4,rfl⟩,s4,C4,hl4,hc4⟩
   obtain⟨ua,hua,rfl⟩:=ze0 hv
   obtain⟨q,hq1,hq2⟩:=(hras.same s4).get hua
   have hj:j<ras.length:=(List.getElem?_eq_some_iff.mp hua).1
   have hrj:p.rules[j]? = some (zM q):=by rw[PI0.rul,gEm,hq1];rfl
   have okq:=List.all_eq_true.mp PI0.ok q (mge hq1)
   have e5:=zxI (un:=N+1) (t:=i+1) (md:=p.made i) hrj
   obtain⟨dx4,hx4⟩:=C4.ins
   refine⟨_,rfl,x,dx4,_,rfl,hx4,zdy _ _ _ _,_,rfl,x,nu,al,n,N,zgG (N+1) (i+1) p.rules (p.made i) j,(i+1,j+1),ua,q,rfl,C4,hq2,okq,hl4,by omega,fun H5 C5 kp5=>?_⟩
   rw[<-e5]at C5
   obtain⟨m1,m2⟩:=zBV (zgG (N+1) (i+1) p.rules (p.made i) j) (N+1) (i+1,j+1) (zM q)
   rw[<-e5]at m1 m2
   exact⟨⟨_,_,rfl⟩,fun b' o hb'=>kp5 b' o (s4 _ _ hb') (zk hb' hx) (zk hb' hnu) (zk hb' hal),C5,by omega,by omega⟩
  ·rintro σ H4 ⟨⟨v3,v4,rfl⟩,s4,C4,hl4,hc4⟩
   rw[lmm,<-hrl,zsO,<-hpar,<-zeX]at C4 hl4
   rw[lmm,<-hrl,zsO,<-hpar,<-zeX]at hc4
   refine⟨⟨_,_,rfl⟩,s4,hpar▸C4,hl4,?_⟩
   rw[hpar]at hc4
   omega
 ·rintro σ H3 ⟨⟨v3,v4,rfl⟩,s3,C3,hl3,hc3⟩
  obtain⟨dx3,hx3⟩:=C3.ins
  have htl:=zll (p.made t).code
  refine⟨_,rfl,x,_,dx3,_,_,rfl,hx3,T.zN,T.zc2,zrz _ _ _ _,zbC,fun z hz=>?_⟩
  have s4:=zl (o:=.lst [.int ((p.made t).code.length:Int)]) hz
  refine⟨_,rfl,x,_,dx3,_,_,rfl,s4 _ _ hx3,T.zN,T.zcv,zpe _ _ _ _,z,nu,_,_,rfl,rfl,zd,s4 _ _ C3.num,?_,fun z2 hz2=>?_⟩
  ·rw[lmm]
   show 1+_<=sizeLine
   rw[sizeLine_eq]
   omega
  have s5:=zl (o:=.lst ([V.int ((p.made t).code.length:Int)]++(told (p.made t).code).map V.int)) hz2
  refine⟨_,rfl,x,_,dx3,_,_,rfl,s5 _ _ (s4 _ _ hx3),T.zN,T.zbb,zh1 _ _ _ _,z2,al,_,_,rfl,rfl,zd,s5 _ _ (s4 _ _ C3.lin),?_,fun z3 hz3=>?_⟩
  ·unfold zeo
   rw[lEa,lmm,lmm,lmm]
   show 1+_+_<=sizeLine
   rw[sizeLine_eq]
   omega
  refine k _ z3 (s3.trans (s4.trans (s5.trans (zl hz3)))) (s3.free (s4.free (s5.free hz3))) ?_
  rw[zd]
  unfold Sp.codeR zeo
  rw[lMa]
  rfl
inductive zuL(A:Ad)(vs:List V)(H:Hp)(Q:VK)(E:XK):Prop|I:∀(bk:Addr) (m:Sp.M) (t:Int),vs=[.ref bk,.int t]->zaE A H bk m->zdH A H bk m (Sp.ask m (.code t)) Q->zuL A vs H Q E
theorem zuM(T:Txt K mg A):zH P w K mg base CX0 45 A.zkL A.zjK ["self","t"] (zuL A):=by
 have zaK:=(@zb2 P w K mg base A T).up 44
 have zwo:=@zuK P w K mg base A T
 refine T.znX.ok zuo (fun _ _ _ _ h=>?_) fun _ _ _ s H vs Q E hr h=>?_
 ·obtain⟨bk,m,t,rfl,_⟩:=h
  rfl
 obtain⟨bk,m,t,rfl,BA,k⟩:=h
 refine zQa (zY (zgo (zaG (zw zaK hr rfl T.zb3 T.zbF.kp T.zcs .nil zj (za (pv 1) zc)) (fun _=>rfl))) (zh (zo (zL (za (zas rfl T.zhH) zc)))) zJ) (zQl (zh (zo (zw zwo hr rfl T.zu0 T.zjR.kp T.zwh .nil zj (za (zg (pv 0) rfl) (za (pv 1) zc))))) ?_);intros
 have ask0:Sp.ask m (.code t)=Sp.inT t fun t=>Sp.codeR m.plan t:=rfl
 rw[ask0]at k
 have BA':=BA
 obtain⟨d,pa,b,r,cv,n,N,bs,qs,ras,BP,_⟩:=BA
 refine⟨_,rfl,t,rfl,_,rfl,?_⟩
 by_cases ht:0<=t/\t<=20
 ·rw[decide_eq_true ht]
  rw[zy1 ht]at k
  have et:t=((t.toNat:Nat):Int):=by omega
  refine zaT ?_
  refine⟨_,rfl,bk,_,d,_,_,rfl,BP.ins,T.zB,T.zai,zaB _ _,_,rfl,pa,b,r,n,N,bs,qs,ras,m.plan,t.toNat,(by rw[<-et];rfl),BP.plan,BP.begs,BP.ruls,BP.rule,BP.is,by omega,fun H2 l s2 _ hl=>?_⟩
  exact k H2 l (BA'.same s2) (zS.same s2) hl
 ·rw[decide_eq_false ht]
  rw[zw2 ht]at k
  refine zaY ⟨zbC,fun l hl=>?_⟩
  exact k _ l (BA'.same (zl hl)) (zS.same (zl hl)) zd
def NB(o:HO):Prop:=∀C d fs,o=.ins C d fs->fs.lookup ("held" : Str)=none
theorem NB.lst{xs:List V}:NB (.lst xs):=fun _ _ _ e=>by cases e
theorem NB.tup{xs:List V}:NB (.tup xs):=fun _ _ _ e=>by cases e
theorem NB.ins{C d:Addr}{fs:List (Str×V)}(h:fs.lookup ("held" : Str)=none):NB (.ins C d fs):=fun _ _ _ e=>by cases e;exact h
theorem NB.upd{H:Hp}{bk C d pa:Addr}{cv:V}{o:HO}(hb:H bk=some (.ins C d (zcu pa cv))) :∀b u,H b=some u->NB u->upd H bk o b=some u:=by
 intro b u h n
 rw[zf (fun e=>by
  rw[e,hb]at h
  cases h
  have:=n _ _ _ rfl
  rw[zaB]at this
  cases this)]
 exact h
section
variable {H H':Hp}(kp :∀b o,H b=some o->NB o->H' b=some o)
include kp
theorem zT.nb{C:Addr}{as:List Addr}{qs:List zav}(h:zT C H as qs):zT C H' as qs:=by
 induction h with
 | nil=>exact .nil
 | cons h t ih=>exact .cons (let⟨d,e⟩:=h;⟨d,kp _ _ e (NB.ins (by unfold zen;simp only[zy];rfl))⟩) ih
theorem zam.nb{as:List Addr}{qs:List Rat}(h:zam H as qs):zam H' as qs:=by
 induction h with
 | nil=>exact .nil
 | cons h t ih=>exact .cons (kp _ _ h NB.tup) ih
theorem zal.nb{as:List Addr}{rows:List (List Int)}(h:zal H as rows):zal H' as rows:=by
 induction h with
 | nil=>exact .nil
 | cons h t ih=>exact .cons ⟨kp _ _ h.1 NB.lst,h.2⟩ ih
theorem zd4.nb{C pa b r:Addr}{n N:Nat}(h:zd4 C H pa n N b r):zd4 C H' pa n N b r:=
 let⟨d,e⟩:=h;⟨d,kp _ _ e (NB.ins (by unfold zcP;simp only[zy];rfl))⟩
theorem zan.nb{c pr rs ss ff:Addr}{qs:List zav}{ps:List Rat}{pl:Vagrao.Plan}{W:Nat}{sa:List Addr}{fl:List Int}(C:zan A H c pr rs ss ff qs ps pl W sa fl):zan A H' c pr rs ss ff qs ps pl W sa fl:=by
 obtain⟨dx,hc⟩:=C.ins
 obtain⟨ras,h1,h2⟩:=C.rules
 obtain⟨qas,h3,h4⟩:=C.vals
 refine⟨⟨dx,kp _ _ hc (NB.ins (zaz _ _ _ _))⟩,⟨ras,kp _ _ h1 NB.lst,zT.nb kp h2⟩,⟨qas,kp _ _ h3 NB.lst,zam.nb kp h4⟩,kp _ _ C.sheets NB.lst,C.pos,fun i a ha=>?_,kp _ _ C.fau NB.lst,C.fl⟩
 obtain⟨r,l,as,sh,lines,u,S,e,o,z⟩:=C.each i a ha
 obtain⟨d,cs,hs,dcs,ddc,fsc,g1,g2,g3⟩:=S.ins
 exact⟨r,l,as,sh,lines,u,⟨⟨d,cs,kp _ _ hs (NB.ins (by unfold zcc;simp only[zy];rfl)),dcs,ddc,fsc,kp _ _ g1 (NB.ins (by unfold zdv;simp only[zy];rfl)),kp _ _ g2 (fun _ _ _ e=>by cases e),g3⟩,kp _ _ S.rows NB.lst,zal.nb kp S.row,kp _ _ S.lin NB.lst,S.sep⟩,e,o,z⟩
end
theorem zqN{H:Hp}{bk C d pa:Addr}{cv:V}{o:HO}(hb:H bk=some (.ins C d (zcu pa cv))):zS H (upd H bk o):=fun b u h k=>by
 rw[zf (zI h hb k.ne_book)];exact h
def ze3:Sp.M:=⟨⟨0,0,[],[]⟩,none⟩
theorem plan0:ze2 0 0 [] [] ze3.plan:=⟨rfl,rfl,rfl,rfl,rfl,fun x hx=>(by cases hx),rfl,by decide,by decide,by decide⟩
inductive zuN(A:Ad)(vs:List V)(H:Hp)(Q:VK)(E:XK):Prop|I:∀(x dx:Addr),vs=[.ref x]->H x=some (.ins A.zax dx [])->(∀H',zaE A H' x ze3->(∀b o,H b=some o->b≠x->H' b=some o)->Q .non H')->zuN A vs H Q E
theorem zuO(T:Txt K mg A):zH P w K mg base CX0 43 A.zkF A.zjC ["self"] (zuN A):=by
 have zkU:=@znz P w K mg base A T
 refine T.znT.ok zum (fun _ _ _ _ h=>?_) fun _ _ _ s H vs Q E hr h=>?_
 ·obtain⟨x,dx,rfl,_⟩:=h
  rfl
 obtain⟨x,dx,rfl,hx,k⟩:=h
 refine zQa (zaX (pv 0) (zc8 T.zw4 zkU hr rfl T.zw3 T.zpk .nil zj (za zi (za zi (za (zL zc) (za (zL zc) zc))))) rfl) (zQl (zh (zaX (pv 0) zpZ rfl)) ?_);intros
 refine⟨Nat.zero_le _,fun b hb=>⟨Nat.zero_le _,fun r hrr=>?_⟩⟩
 have s1:zq H (upd H b (.lst [])):=zl hb
 have s2:zq _ (upd (upd H b (.lst [])) r (.lst [])):=zl hrr
 have hb2:upd (upd H b (.lst [])) r (.lst []) b=some (.lst []):=s2 _ _ zd
 have hr2:upd (upd H b (.lst [])) r (.lst []) r=some (.lst []):=zd
 have s12:=s1.trans s2
 generalize upd (upd H b (.lst [])) r (.lst [])=H2 at hb2 hr2 s12
 intro y dy hy hdy hne
 refine⟨y,dy,0,0,b,r,rfl,zd,rfl,?_⟩
 rw[zaS]
 have hx2:=s12 _ _ hx
 have nxy:x≠y:=zk hx2 hy
 have nxd:x≠dy:=zk hx2 hdy
 have hx3:upd (upd H2 dy (.own y)) y (.ins A.zbY dy (zcP 0 0 b r)) x=some (.ins A.zax dx []):=by rw[zf nxy,zf nxd];exact hx2
 refine⟨_,rfl,x,_,dx,_,rfl,hx3,T.zB,T.zai,(by show 0<1000;decide),?_⟩
 refine⟨_,rfl,x,_,dx,_,rfl,zd,T.zB,T.z8,(by show 1<1000;decide),?_⟩
 rw[zaS]
 refine k _ ⟨dx,y,b,r,.non,0,0,[],[],[],⟨zd,⟨dy,?_⟩,?_,?_,.nil,plan0⟩,.inl ⟨rfl,rfl⟩⟩ fun c o hc hn=>?_
 ·rw[zf (fun z=>nxy z.symm),zd];rfl
 ·rw[zf (zI hb2 hx2 (by intro z;cases z)),zf (zk hb2 hy),zf (zk hb2 hdy)];exact hb2
 ·rw[zf (zI hr2 hx2 (by intro z;cases z)),zf (zk hr2 hy),zf (zk hr2 hdy)];exact hr2
 ·have hc2:=s12 _ _ hc
  rw[zf hn,zf (zk hc2 hy),zf (zk hc2 hdy)];exact hc2
inductive zBW(K:Fg)(A:Ad)(vs:List V)(H:Hp)(Q:VK)(E:XK):Prop|I:∀(bk p:Addr) (m:Sp.M) (ns:List Int),vs=[.ref bk,.ref p]->zaE A H bk m->SqL K H p (ns.map V.int)->ns.length<=1000->Sp.Nums ns->zdH A H bk (Sp.za5 m (.set ns)).1 (Sp.za5 m (.set ns)).2 Q->zBW K A vs H Q E
theorem znD(B:Bs P base)(T:Txt K mg A):zH P w K mg base CX0 47 A.zfz A.ze6 ["self","numbers"] (zBW K A):=by
 have zb4:=(zd0 (w:=w) B T).up 46
 have zeD:=zhb (w:=w) B T
 refine T.zh4.ok zhU (fun _ _ _ _ h=>?_) fun _ _ _ s H vs Q E hr h=>?_
 ·obtain⟨bk,p,m,ns,rfl,_⟩:=h
  rfl
 obtain⟨bk,p,m,ns,rfl,BA,hp,hz,hn,k⟩:=h
 refine zQa (qD 2 zhU.nd (zw zb4 hr rfl T.zea T.zcx.kp T.zeC .nil zj (za (pv 1) (za (zg (zg (pv 0) rfl) rfl) zc)))) (zQc (zY (ztF (ztE (pv 2))) (zh (zo (zL (za (zas rfl T.zjU) zc)))) zJ) (zQc (zaX (pv 0) (zc8 T.znP zeD hr rfl T.znL T.ziE .nil zj (za (zg (pv 0) rfl) (za (pv 2) (za zeO zc)))) rfl) (zQl (zh (zo (zL (za (zaN zaC (by rfl) T.zcw PySem.boot_len (za (pv 2) zc)) zc)))) ?_)));intros
 have BA':=BA
 obtain⟨d,pa,b,r,cv,n,N,bs,qs,ras,BP,hv⟩:=BA
 obtain⟨dp,hpa⟩:=BP.plan
 have few:=BP.is.few
 refine⟨_,rfl,_,rfl,bk,_,d,_,_,rfl,BP.ins,T.zB,T.zai,zaB _ _,pa,_,dp,_,_,rfl,hpa,T.zaI,T.zac,zaw _ _ _ _,?_⟩
 refine⟨p,ns,N,rfl,hp,hz,by omega,fun v H' hra=>?_⟩
 obtain⟨s1,hra⟩:=hra
 have step:Sp.za5 m (.set ns)=match Sp.zaF N ns with
  | some rs=>({m with vals:=some rs},[(N:Int)])
  | none=>(m,[-2]):=by
  rw[<-BP.is.par];rfl
 cases er:Sp.zaF N ns with
 | none=>
  rw[er]at hra step
  cases hra
  rw[step]at k
  refine⟨_,rfl,_,rfl,?_⟩
  refine zaY ?_
  refine⟨zbC,fun l hl=>?_⟩
  exact k _ l (BA'.same (s1.trans (zl hl))) (zS.same (s1.trans (zl hl))) zd
 | some ps=>
  rw[er]at hra step
  obtain⟨l,as,rfl,hl,hl2,QA⟩:=hra
  rw[step]at k
  refine⟨_,rfl,_,rfl,?_⟩
  refine zaT ?_
  have V15:=zh0 er hn
  have BP1:=BP.same s1
  refine⟨_,rfl,bk,_,d,_,_,rfl,BP1.ins,T.zB,T.zai,zaB _ _,_,rfl,?_⟩
  intro x dx hx hdx hne
  have s2:zq H' (upd (upd H' dx (.own x)) x (.ins A.zao dx [])):=(zl hdx).trans (zl (by rw[zf (fun z=>hne z.symm)];exact hx))
  have hxx:upd (upd H' dx (.own x)) x (.ins A.zao dx []) x=some (.ins A.zao dx []):=zd
  have nx :∀c o,H' c=some o->c≠x:=fun c o hc=>zk hc hx
  generalize upd (upd H' dx (.own x)) x (.ins A.zao dx [])=H2 at s2 hxx
  have BP2:=BP1.same s2
  refine⟨x,dx,pa,l,b,r,n,N,bs,qs,ps,m.plan,ras,as,true,rfl,hxx,BP2.plan,BP2.begs,BP2.ruls,BP2.rule,s2 _ _ hl2,QA.same s2,BP2.is,V15,fun H3 ss ff sa C hsa _ kp=>⟨rfl,?_⟩⟩
  have s3:zq H' H3:=fun c o hc=>kp c o (s2 c o hc) (nx c o hc)
  have BP3:=BP1.same s3
  refine⟨_,rfl,bk,_,d,_,rfl,BP3.ins,T.zB,T.z8,(by show 2<1000;decide),?_⟩
  rw[zxD]
  have hl4:upd H3 bk (.ins A.zax d (zcu pa (.ref x))) l=some (.lst (as.map V.ref)):=NB.upd BP3.ins _ _ (s3 _ _ hl2) NB.lst
  refine⟨_,rfl,l,_,rfl,.inl (SqL.of hl4),zbC,fun z hz2=>?_⟩
  have s4:zq (upd H3 bk (.ins A.zax d (zcu pa (.ref x)))) (upd (upd H3 bk (.ins A.zax d (zcu pa (.ref x)))) z (.lst [.int ((as.map V.ref).length:Nat)])):=zl hz2
  have u:=NB.upd (o:=.ins A.zax d (zcu pa (.ref x))) BP3.ins
  refine k _ z (zaE.same ⟨d,pa,b,r,.ref x,n,N,bs,qs,ras,⟨zd,zd4.nb u BP3.plan,u _ _ BP3.begs NB.lst,u _ _ BP3.ruls NB.lst,zT.nb u BP3.rule,BP3.is⟩,.inr ⟨x,l,ss,ff,ps,sa,[],rfl,⟨rfl,zan.nb u C,V15,by omega⟩⟩⟩ s4) ((zS.same (s1.trans s3)).trans ((zqN BP3.ins).trans (zS.same s4))) ?_
  rw[zd,lmm,QA.length,V15.len]
  rfl
theorem zv1(n N:Nat)(l:List Int):Vagrao.beginsOf n N l=if(decide ((l.length:Int)=(n:Int))&&l.all (okB (N:Int)))=true then some (l.map zcd)else none:=by
 unfold Vagrao.beginsOf
 have e:(l.length=n/\(l.all fun x=>decide (-1<=x)&&decide (x<(N:Int)))=true)↔(decide ((l.length:Int)=(n:Int))&&l.all (okB (N:Int)))=true:=by
  rw[bAt,decide_eq_true_eq]
  constructor
  ·rintro⟨h1,h2⟩;exact⟨by omega,h2⟩
  ·rintro⟨h1,h2⟩;exact⟨by omega,h2⟩
 by_cases h:(decide ((l.length:Int)=(n:Int))&&l.all (okB (N:Int)))=true
 ·rw[if_pos h,if_pos (e.mpr h)];rfl
 ·rw[if_neg h,if_neg (fun z=>h (e.mp z))]
theorem zl0{m:Sp.M}{n k:Int}{b r:List Int}(h:¬((1<=n/\n<=6)/\(0<=k/\k<=8))):Sp.za5 m (.plan n k b r)=(m,[-1]):=if_neg h
theorem zz4{m:Sp.M}{n k:Int}{b r:List Int}(h:(1<=n/\n<=6)/\(0<=k/\k<=8)):Sp.za5 m (.plan n k b r)=match Vagrao.beginsOf n.toNat k.toNat b,Vagrao.rulesOf n.toNat k.toNat r.length r with
   | some b,some r=>if 10<r.length then(m,[-7])else(⟨⟨n.toNat,k.toNat,b,r⟩,none⟩,[(r.length:Int)])
   | _,_=>(m,[-2]):=if_pos h
inductive zA9(K:Fg)(A:Ad)(vs:List V)(H:Hp)(Q:VK)(E:XK):Prop|I:∀(bk bl rl:Addr) (m:Sp.M) (n k:Int) (b r:List Int),vs=[.ref bk,.int n,.int k,.ref bl,.ref rl]->zaE A H bk m->SqL K H bl (b.map V.int)->SqL K H rl (r.map V.int)->b.length<=200->r.length<=200->zdH A H bk (Sp.za5 m (.plan n k b r)).1 (Sp.za5 m (.plan n k b r)).2 Q->zA9 K A vs H Q E
theorem zuP(B:Bs P base)(T:Txt K mg A):zH P w K mg base CX0 45 A.zkG A.zjD ["self","accounts","parameters","begins","rules"] (zA9 K A):=by
 have zvj:=(@zs2 P w K mg base A T).up 44
 have zwp:=@zuu P w K mg base A T
 have zjY:=(@zmF P w K mg base A T).up 44
 have zkU:=(@znz P w K mg base A T).up 43
 refine T.znU.ok zun (fun _ _ _ _ h=>?_) fun _ _ _ s H vs Q E hr h=>?_
 ·obtain⟨bk,bl,rl,m,n,k,b,r,rfl,_⟩:=h
  rfl
 obtain⟨bk,bl,rl,m,n,k,b,r,rfl,BA,hbl,hrl,zb,zr,kk⟩:=h
 refine zQa (zY (zgo (PW.pt (zkV (zpo zds zds zi (pv 1) (zas rfl T.zqW)) (ziV (zpo zds zds zi (pv 2) (zas rfl T.zoE)))))) (zh (zo (zL (za (zas rfl T.zhH) zc)))) zJ) (zQc (zY (zgo (PW.pt (zkV (zaG (zw zvj hr rfl T.ztg T.ziz.kp T.zu8 .nil zj (za (pv 3) (za (pv 1) (za (pv 2) zc)))) (fun _=>rfl)) (ziV (zaG (zw zwp hr rfl T.zuZ T.zjN.kp T.zwg .nil zj (za (pv 4) (za (pv 1) (za (pv 2) zc)))) (fun _=>rfl)))))) (zh (zo (zL (za (zas rfl T.zjU) zc)))) zJ) (zQc (zY (z5 zlI (zaN zaC (by rfl) T.zcw PySem.boot_len (za (pv 4) zc)) (zW za2 (zas rfl T.zu7) (zas rfl T.ziD)) (nomark _)) (zh (zo (zL (za (zas rfl T.zpS) zc)))) zJ) (zQc (zaX (pv 0) (zc8 T.zw4 zkU hr rfl T.zw3 T.zpk .nil zj (za (pv 1) (za (pv 2) (za (zgb zeW (by rfl) T.zlA boot_list (za (pv 3) zc)) (za (zw zjY hr rfl T.zmK T.zfX.kp T.zn2 .nil zj (za (pv 4) zc)) zc))))) rfl) (zQc (zaX (pv 0) zpZ rfl) (zQl (zh (zo (zL (za (zaN zaC (by rfl) T.zcw PySem.boot_len (za (zg (zg (pv 0) rfl) rfl) zc)) zc)))) ?_)))));intros
 have BA':=BA
 obtain⟨d,pa0,b0,r0,cv0,n0,N0,bs0,qs0,ras0,BP,hv⟩:=BA
 have no :∀(x:Int) (H1:Hp),zq H H1->Sp.za5 m (.plan n k b r)=(m,[x])->1<=sizeLine/\∀l,H1 l=none->Q (.ref l) (upd H1 l (.lst [.int x])):=by
  intro x H1 s1 e
  rw[e]at kk
  exact⟨(by decide),fun l hl=>kk _ l (BA'.same (s1.trans (zl hl))) (zS.same (s1.trans (zl hl))) zd⟩
 have s0:zq H H:=fun _ _ z=>z
 refine⟨_,rfl,_,_,rfl,rfl,_,rfl,?_⟩
 by_cases h1:1<=n
 ·rw[decide_eq_true h1]
  refine zaY ?_
  refine⟨_,_,rfl,rfl,_,rfl,?_⟩
  by_cases h2:n<=6
  ·rw[decide_eq_true h2]
   refine zaY ?_
   refine⟨_,rfl,_,_,rfl,rfl,_,rfl,?_⟩
   by_cases h3:0<=k
   ·rw[decide_eq_true h3]
    refine zaY ?_
    refine⟨_,_,rfl,rfl,_,rfl,?_⟩
    by_cases h4:k<=8
    ·rw[decide_eq_true h4]
     refine zaT ?_
     have hin:(1<=n/\n<=6)/\(0<=k/\k<=8):=⟨⟨h1,h2⟩,h3,h4⟩
     have en:n=((n.toNat:Nat):Int):=by omega
     have ek:k=((k.toNat:Nat):Int):=by omega
     have st:=zz4 (m:=m) (b:=b) (r:=r) hin
     have eb:=zv1 n.toNat k.toNat b
     have er:=zqq n.toNat k.toNat r.length r (nLr _)
     rw[<-en,<-ek]at eb er
     refine⟨_,rfl,_,rfl,_,rfl,bl,b,n,k,rfl,hbl,by omega,fun H1 s1=>⟨_,rfl,?_⟩⟩
     by_cases g1:(decide ((b.length:Int)=n)&&b.all (okB k))=true
     ·rw[g1]
      rw[if_pos g1]at eb
      refine zaY ?_
      refine⟨_,rfl,_,rfl,_,rfl,rl,r,n,k,rfl,s1.seq hrl,by omega,fun H2 s2=>⟨_,rfl,?_⟩⟩
      have s12:=s1.trans s2
      by_cases g2:(decide (r.length%4=0)&&(quads r).all (okQ n k))=true
      ·rw[g2]
       have g2':=g2
       rw[bAt,decide_eq_true_eq]at g2'
       rw[if_pos g2']at er
       rw[eb,er]at st
       refine zaT ?_
       have hq:=zeZ r
       refine⟨_,rfl,rl,_,rfl,.inl (s12.seq hrl),_,_,rfl,rfl,zcU (by decide) (by decide),_,_,rfl,rfl,_,rfl,?_⟩
       rw[lmm]
       refine zaZ (fun e=>?_) (fun e=>?_)
       ·have e1:(40:Int)<(r.length:Int):=oDt e
        refine no (-7) H2 s12 ?_
        rw[st]
        exact if_pos (by rw[lmm];omega)
       ·have e1:¬(40:Int)<(r.length:Int):=fun z=>e (decide_eq_true z)
        have st2:Sp.za5 m (.plan n k b r)=(⟨⟨n.toNat,k.toNat,b.map zcd,(quads r).map zM⟩,none⟩,[(((quads r).map zM).length:Int)]):=by
         rw[st]
         exact if_neg (by rw[lmm];omega)
        rw[st2]at kk
        refine⟨_,rfl,_,rfl,_,rfl,bl,_,rfl,.inl (s12.seq hbl),fun b1 hb1=>?_⟩
        have s3:zq H2 (upd H2 b1 (.lst (b.map V.int))):=zl hb1
        have hb2:upd H2 b1 (.lst (b.map V.int)) b1=some (.lst (b.map V.int)):=zd
        refine⟨_,rfl,rl,r,r.length/4,rfl,(s12.trans s3).seq hrl,by omega,by omega,fun r1 ras H3 s4 hr1 hr2 RA=>?_⟩
        have s5:=s12.trans (s3.trans s4)
        have hb3:=s4 _ _ hb2
        have BP3:=BP.same s5
        intro x dx hx hdx hne
        refine⟨x,dx,n,k,b1,r1,rfl,zd,rfl,?_⟩
        rw[zaS]
        have s6:zq H3 (upd (upd H3 dx (.own x)) x (.ins A.zbY dx (zcP n k b1 r1))):=(zl hdx).trans (zl (by rw[zf (fun z=>hne z.symm)];exact hx))
        have hxx:upd (upd H3 dx (.own x)) x (.ins A.zbY dx (zcP n k b1 r1)) x=some (.ins A.zbY dx (zcP n k b1 r1)):=zd
        generalize upd (upd H3 dx (.own x)) x (.ins A.zbY dx (zcP n k b1 r1))=H4 at s6 hxx
        have BP4:=BP3.same s6
        refine⟨_,rfl,bk,_,d,_,rfl,BP4.ins,T.zB,T.zai,(by show 2<1000;decide),?_⟩
        refine⟨_,rfl,bk,_,d,_,rfl,zd,T.zB,T.z8,(by show 2<1000;decide),?_⟩
        rw[zaS]
        have ef:zK "course" V.non (zK "held" (V.ref x) (zcu pa0 cv0))=zcu x .non:=rfl
        rw[ef]
        have u:=NB.upd (o:=.ins A.zax d (zcu x .non)) BP4.ins
        have hxx2:upd H4 bk (.ins A.zax d (zcu x .non)) x=some (.ins A.zbY dx (zcP n k b1 r1)):=u _ _ hxx (NB.ins (by unfold zcP;simp only[zy];rfl))
        have hr4:upd H4 bk (.ins A.zax d (zcu x .non)) r1=some (.lst (ras.map V.ref)):=u _ _ (s6 _ _ hr2) NB.lst
        refine⟨_,rfl,bk,_,d,_,_,rfl,zd,T.zB,T.zai,zaB _ _,x,_,dx,_,_,rfl,hxx2,T.zaI,T.zfY,zkt _ _ _ _,r1,_,rfl,.inl (SqL.of hr4),zbC,fun z hz=>?_⟩
        have s7:=zl (o:=.lst [.int ((ras.map V.ref).length:Nat)]) hz
        have g1':=g1
        rw[bAt,decide_eq_true_eq]at g1'
        have hall:=g2'.2
        rw[en,ek]at hall
        have is:ze2 n.toNat k.toNat b (quads r) ⟨n.toNat,k.toNat,b.map zcd,(quads r).map zM⟩:=by
         refine⟨rfl,rfl,rfl,rfl,by omega,fun y hy=>?_,hall,by omega,by omega,by omega⟩
         have:=List.all_eq_true.mp g1'.2 y hy
         unfold okB at this
         rw[bAt,decide_eq_true_eq,decide_eq_true_eq]at this
         omega
        refine kk _ z (zaE.same ⟨d,x,b1,r1,.non,n.toNat,k.toNat,b,quads r,ras,⟨zd,⟨dx,by rw[<-en,<-ek];exact hxx2⟩,u _ _ (s6 _ _ hb3) NB.lst,hr4,zT.nb u (RA.same s6),is⟩,.inl ⟨rfl,rfl⟩⟩ s7) ((zS.same (s5.trans s6)).trans ((zqN BP4.ins).trans (zS.same s7))) ?_
        rw[zd,lmm,lmm,RA.length]
        rfl
      ·rw[Bool.eq_false_iff.mpr g2]
       have g2':¬(r.length%4=0/\(quads r).all (okQ n k)=true):=fun z=>g2 (by rw[bAt,decide_eq_true_eq];exact z)
       rw[if_neg g2']at er
       rw[eb,er]at st
       refine zaY ?_
       exact no (-2) H2 s12 st
     ·rw[Bool.eq_false_iff.mpr g1]
      rw[if_neg g1]at eb
      rw[eb]at st
      refine zaT ?_
      refine zaY ?_
      exact no (-2) H1 s1 st
    ·rw[decide_eq_false h4]
     refine zaY ?_
     exact no (-1) H s0 (zl0 (by omega))
   ·rw[decide_eq_false h3]
    refine zaT ?_
    refine⟨_,rfl,?_⟩
    refine zaY ?_
    exact no (-1) H s0 (zl0 (by omega))
  ·rw[decide_eq_false h2]
   refine zaT ?_
   refine zaY ?_
   exact no (-1) H s0 (zl0 (by omega))
 ·rw[decide_eq_false h1]
  refine zaT ?_
  refine⟨_,rfl,?_⟩
  refine zaT ?_
  refine zaY ?_
  exact no (-1) H s0 (zl0 (by omega))
end
end My
namespace My
open Pr
open Vagrao (Rule Plan Made Call)
def BIG:Nat:=10000
theorem zy6(h:List Int)(l:List Rat):(Sp.za4 h l).length<=h.length+2*l.length+1:=by
 unfold Sp.za4
 split
 ·show 1<=_
  omega
 ·rw[lEa]
  have:=zsL l
  unfold frac2 at this
  omega
theorem zdq{t:Int}{f:Nat->List Int}(h :∀n,n<=20->(f n).length<=BIG):(Sp.inT t f).length<=BIG:=by
 unfold Sp.inT
 split
 ·exact h _ (by omega)
 ·decide
theorem zgk{a:Int}{n:Nat}{f:Nat->List Int}(h :∀i,i<n->(f i).length<=BIG):(Sp.inN a n f).length<=BIG:=by
 unfold Sp.inN
 split
 ·exact h _ (by omega)
 ·decide
theorem zcH{v:Option (List Rat)}{f:List Rat->List Int}(h :∀ps,(f ps).length<=BIG):(Sp.zcA v f).length<=BIG:=by
 cases v with
 | none=>show 1<=BIG;decide
 | some ps=>exact h ps
theorem zj9{n:Nat}{l:List Int}{f:List Rat->List Int}(h :∀ps,ps.length=n->(f ps).length<=BIG):(Sp.zhB n l f).length<=BIG:=by
 unfold Sp.zhB
 cases e:Sp.zaF n l with
 | none=>show 1<=BIG;decide
 | some ps=>exact h ps (Sp.znb e)
theorem zcI{ps:List Rat}{p:Plan}{t:Nat}{f:List Sp.zt->List Int}(h :∀s,s.length=p.begins.length->(f s).length<=BIG):(Sp.zbs ps p t f).length<=BIG:=by
 unfold Sp.zbs
 cases e:Sp.zaj ps p t with
 | error x=>show 1<=BIG;decide
 | ok s=>exact h s (zgj t s e)
theorem zcJ{h:List Int}{l:List Rat}(g:h.length+2*l.length<BIG):(Sp.za4 h l).length<=BIG:=by
 have:=zy6 h l
 omega
theorem zv2(N:Nat)(d:Sp.zt):(Sp.zaR N d).length=N:=by unfold Sp.zaR;rw[lmm,List.length_range]
theorem zz5(m:Made)(u:Nat)(o:Nat×Nat)(r:Rule):(m.rule u o r).code.length<=m.code.length+3/\(m.rule u o r).lines.length=m.lines.length:=by
 cases r<;>simp[Made.rule,Made.put,Made.now]<;>omega
theorem zqO(u t:Nat) :∀(l:List (Rule×Nat)) (m:Made),(l.foldl (fun(x:Made) r=>x.rule u (t,r.2+1) r.1) m).code.length<=m.code.length+3*l.length/\(l.foldl (fun(x:Made) r=>x.rule u (t,r.2+1) r.1) m).lines.length=m.lines.length
 | [],m=>⟨nLr _,rfl⟩
 | r::l,m=>by
  obtain⟨h1,h2⟩:=zqO u t l (m.rule u (t,r.2+1) r.1)
  obtain⟨g1,g2⟩:=zz5 m u (t,r.2+1) r.1
  rw[List.foldl_cons,List.length_cons]
  exact⟨by omega,by omega⟩
theorem zuQ(p:Plan) :∀t,(p.made t).code.length<=p.params+2+t*(3*p.rules.length)/\(p.made t).lines.length=p.begins.length
 | 0=>by
  show(p.first).code.length<=_/\(p.first).lines.length=_
  unfold Plan.first
  simp
 | t+1=>by
  obtain⟨h1,h2⟩:=zuQ p t
  rw[Sp.zeX]
  obtain⟨g1,g2⟩:=zqO (p.params+1) (t+1) p.rules.zipIdx (p.made t)
  unfold Made.period
  rw[List.length_zipIdx]at g1
  rw[Nat.succ_mul]
  exact⟨by omega,by omega⟩
theorem zz6(l:VagraLine.Line):l.told.length<=3:=by cases l<;>simp[VagraLine.Line.told]
theorem zuR :∀(c:VagraLine.Code),(VagraLine.told c).length<=3*c.length
 | []=>nLr _
 | l::c=>by
  have:=zuR c
  have:=zz6 l
  unfold VagraLine.told at *
  rw[List.flatMap_cons,lEa,List.length_cons]
  omega
structure Few(p:Plan):Prop where
 acc:p.accounts<=6
 par:p.params<=8
 rul:p.rules.length<=10
 beg:p.begins.length=p.accounts
theorem ze2.fewP{n N:Nat}{bs:List Int}{qs:List zav}{pl:Plan}(h:ze2 n N bs qs pl):Few pl:=by
 have few:=h.few
 exact⟨by rw[h.acc];exact few.1,by rw[h.par];exact few.2.1,by rw[h.rul,lmm];exact few.2.2,by rw[h.beg,lmm,h.len,h.acc]⟩
theorem zdr{m:Sp.M}(F:Few m.plan)(k:Call):(Sp.ask m k).length<=BIG:=by
 have h1:=F.acc
 have h2:=F.par
 have h3:=F.rul
 have h4:=F.beg
 have big:BIG=10000:=rfl
 have one:1<=BIG:=by decide
 cases k with
 | plan a p b r=>exact one
 | set l=>exact one
 | fault t=>
  unfold Sp.ask
  dsimp only
  refine zdq fun t' ht=>?_
  refine zcH fun ps=>?_
  unfold Sp.zjb
  split
  ·exact one
  ·show 4<=BIG;decide
 | run t=>
  unfold Sp.ask
  dsimp only
  refine zdq fun t' ht=>?_
  refine zcH fun ps=>?_
  refine zcI fun s hs=>?_
  refine zcJ ?_
  rw[lmm,List.length_singleton]
  omega
 | path a t=>
  unfold Sp.ask
  dsimp only
  refine zgk fun a' _=>?_
  refine zdq fun t' ht=>?_
  refine zcH fun ps=>?_
  refine zcI fun s hs=>?_
  refine zcJ ?_
  rw[lmm,List.length_range,List.length_singleton]
  omega
 | slopes a t=>
  unfold Sp.ask
  dsimp only
  refine zgk fun a' _=>?_
  refine zdq fun t' ht=>?_
  refine zcH fun ps=>?_
  refine zcI fun s hs=>?_
  refine zcJ ?_
  rw[zv2,List.length_singleton]
  omega
 | table t=>
  unfold Sp.ask
  dsimp only
  refine zdq fun t' ht=>?_
  refine zcH fun ps=>?_
  refine zcI fun s hs=>?_
  refine zcJ ?_
  rw[zeU,List.length_cons,List.length_singleton]
  have:s.length*m.plan.params<=6*8:=Nat.mul_le_mul (by omega) h2
  omega
 | pull t w=>
  unfold Sp.ask
  dsimp only
  refine zdq fun t' ht=>?_
  refine zj9 fun ws _=>?_
  refine zcH fun ps=>?_
  refine zcI fun s hs=>?_
  refine zcJ ?_
  unfold Sp.zeF
  rw[lmm,List.length_range,List.length_singleton]
  omega
 | elastic a j t=>
  unfold Sp.ask
  dsimp only
  refine zgk fun a' _=>?_
  refine zgk fun j' _=>?_
  refine zdq fun t' ht=>?_
  refine zcH fun ps=>?_
  refine zcI fun s hs=>?_
  unfold Sp.zf1
  split
  ·exact one
  ·refine zcJ ?_
   show 1+2*1<BIG
   decide
 | whatIf a t l=>
  unfold Sp.ask
  dsimp only
  refine zgk fun a' _=>?_
  refine zdq fun t' ht=>?_
  refine zj9 fun ws _=>?_
  refine zcH fun ps=>?_
  refine zcI fun s hs=>?_
  refine zcI fun s' hs'=>?_
  unfold Sp.whatR
  refine zcJ ?_
  show 1+2*3<BIG
  decide
 | aim a j t l=>
  unfold Sp.ask
  dsimp only
  refine zgk fun a' _=>?_
  refine zgk fun j' _=>?_
  refine zdq fun t' ht=>?_
  refine zj9 fun ws _=>?_
  refine zcH fun ps=>?_
  refine zcI fun s hs=>?_
  unfold Sp.aimR
  dsimp only
  split
  ·exact one
  ·split
   ·exact one
   ·split
    ·refine zcJ ?_
     show 1+2*1<BIG
     decide
    ·refine zcJ ?_
     show 1+2*2<BIG
     decide
 | first a t l=>
  unfold Sp.ask
  dsimp only
  refine zgk fun a' _=>?_
  refine zdq fun t' ht=>?_
  refine zj9 fun ws _=>?_
  refine zcH fun ps=>?_
  refine zcI fun s hs=>?_
  unfold Sp.zcB
  split
  ·refine zcJ ?_
   show 2+2*1<BIG
   decide
  ·exact one
 | total t=>
  unfold Sp.ask
  dsimp only
  refine zdq fun t' ht=>?_
  refine zcH fun ps=>?_
  refine zcI fun s hs=>?_
  refine zcJ ?_
  show 1+2*1<BIG
  decide
 | code t=>
  unfold Sp.ask
  dsimp only
  refine zdq fun t' ht=>?_
  unfold Sp.codeR
  obtain⟨g1,g2⟩:=zuQ m.plan t'
  have g3:=zuR (m.plan.made t').code
  have g4:t'*(3*m.plan.rules.length)<=20*30:=Nat.mul_le_mul ht (by omega)
  rw[lEa,List.length_cons,lmm]
  omega
theorem zz7{m:Sp.M}(F:Few m.plan)(k:Call):(Sp.za5 m k).2.length<=BIG:=by
 cases k with
 | plan a p b r=>
  unfold Sp.za5
  dsimp only
  split
  ·split
   ·split
    ·show 1<=BIG;decide
    ·show 1<=BIG;decide
   ·show 1<=BIG;decide
  ·show 1<=BIG;decide
 | set l=>
  unfold Sp.za5
  dsimp only
  split
  ·show 1<=BIG;decide
  ·show 1<=BIG;decide
 | fault t=>exact zdr F (.fault t)
 | run t=>exact zdr F (.run t)
 | path a t=>exact zdr F (.path a t)
 | slopes a t=>exact zdr F (.slopes a t)
 | table t=>exact zdr F (.table t)
 | pull t w=>exact zdr F (.pull t w)
 | elastic a p t=>exact zdr F (.elastic a p t)
 | whatIf a t l=>exact zdr F (.whatIf a t l)
 | aim a p t l=>exact zdr F (.aim a p t l)
 | first a t l=>exact zdr F (.first a t l)
 | total t=>exact zdr F (.total t)
 | code t=>exact zdr F (.code t)
end My
namespace My
open PySem PySem.Spec PyProof.Rows L2 Pr
open Sp (zad flat zgr)
open Vagrao (Call)
section
variable {P:Program}{w:World}{K:Fg}{mg:Str->Option Value}{base:Heap}{A:Ad}
def idOf:Call->Nat
 | .plan ..=>0|.set ..=>1|.fault ..=>2|.run ..=>3|.path ..=>4|.slopes ..=>5|.table ..=>6
 | .pull ..=>7|.elastic ..=>8|.whatIf ..=>9|.aim ..=>10|.first ..=>11|.total ..=>12|.code ..=>13
def numsOf:Call->List Int
 | .plan a p _ _=>[a,p]|.set _=>[]|.fault t=>[t]|.run t=>[t]|.path a t=>[a,t]|.slopes a t=>[a,t]|.table t=>[t]
 | .pull t _=>[t]|.elastic a p t=>[a,p,t]|.whatIf a t _=>[a,t]|.aim a p t _=>[a,p,t]|.first a t _=>[a,t]|.total t=>[t]|.code t=>[t]
def zeB:Call->List (List Int)
 | .plan _ _ b r=>[b,r]|.set l=>[l]|.pull _ w=>[w]|.whatIf _ _ l=>[l]|.aim _ _ _ l=>[l]|.first _ _ l=>[l]|_=>[]
theorem zBa(k:Call):flat k=(idOf k:Int)::(numsOf k++(zeB k).flatMap zad):=by
 cases k<;>simp[flat,idOf,numsOf,zeB,zad]
theorem zBX{i j:Int}(h:¬i=j):decide (V.int i=V.int j)=false:=decide_eq_false fun z=>h (V.int.inj z)
theorem ifno{i j:Int}{p q:Prop}(h:¬i=j)(k:q):if decide (V.int i=V.int j)=true then p else q:=by
 rw[zBX h]
 exact zaT k
theorem zCk{i j:Int}(h:i=j):decide (V.int i=V.int j)=true:=decide_eq_true (by rw[h])
theorem zbq.nil_inv{H:Hp}{as:List Addr}(h:zbq H as []):as=[]:=by cases h;rfl
theorem zbq.one_inv{H:Hp}{as:List Addr}{x:List Int}(h:zbq H as [x]) :∃a,as=[a]/\H a=some (.lst (x.map V.int)):=by
 cases h with
 | cons g t=>cases t;exact⟨_,rfl,g⟩
theorem zbq.two_inv{H:Hp}{as:List Addr}{x y:List Int}(h:zbq H as [x,y]) :∃a b,as=[a,b]/\H a=some (.lst (x.map V.int))/\H b=some (.lst (y.map V.int)):=by
 cases h with
 | cons g t=>
  cases t with
  | cons g2 t=>cases t;exact⟨_,_,rfl,g,g2⟩
inductive zBY(A:Ad)(vs:List V)(H:Hp)(Q:VK)(E:XK):Prop|I:∀(bk nl rl:Addr) (m:Sp.M) (k:Call) (ras:List Addr),vs=[.ref bk,.int (idOf k:Int),.ref nl,.ref rl]->zgr k->zaE A H bk m->H nl=some (.lst ((numsOf k).map V.int))->H rl=some (.lst (ras.map V.ref))->zbq H ras (zeB k)->zdH A H bk (Sp.za5 m k).1 (Sp.za5 m k).2 Q->zBY A vs H Q E
theorem ztf(B:Bs P base)(T:Txt K mg A):zH P w K mg base CX0 51 A.zjL A.ziy ["book","call","numbers","rows"] (zBY A):=by
 have zwq:=(zuP (w:=w) B T).up 50
 have zoM:=(znD (w:=w) B T).up 50
 have zvk:=(zs7 (w:=w) B T).up 50
 have zx3:=zvX (w:=w) B T
 have zwr:=zuE (w:=w) B T
 have ztx:=zrx (w:=w) B T
 have zvl:=ztb (w:=w) B T
 have zws:=zuH (w:=w) B T
 have zr2:=zqJ (w:=w) B T
 have zr3:=zqL (w:=w) B T
 have zx4:=zvZ (w:=w) B T
 have zvm:=ztd (w:=w) B T
 have zvn:=zs9 (w:=w) B T
 have zwt:=(@zuM P w K mg base A T).up 50
 refine T.ziC.ok zsY (fun _ _ _ _ h=>?_) fun _ _ _ s H vs Q E hr h=>?_
 ·obtain⟨bk,nl,rl,m,k,ras,rfl,_⟩:=h
  rfl
 obtain⟨bk,nl,rl,m,k,ras,rfl,ok,BA,hn,hrl,RL,kk⟩:=h
 refine zQa (zY (z5 zb0 (pv 1) zi (nomark _)) (zh (zo (zp (pv 0) T.zB T.zu1 zwq hr T.zwj .nil zj (za (zu zA (pv 2) zi (fun _ _=>rfl)) (za (zu zA (pv 2) zi (fun _ _=>rfl)) (za (zu zA (pv 3) zi (fun _ _=>rfl)) (za (zu zA (pv 3) zi (fun _ _=>rfl)) zc))))))) zJ) (zQc (zY (z5 zb0 (pv 1) zi (nomark _)) (zh (zo (zp (pv 0) T.zB T.znN zoM hr T.zoI .nil zj (za (zu zA (pv 3) zi (fun _ _=>rfl)) zc)))) zJ) (zQc (zY (z5 zb0 (pv 1) zi (nomark _)) (zh (zo (zp (pv 0) T.zB T.ztj zvk hr T.zvc .nil zj (za (zu zA (pv 2) zi (fun _ _=>rfl)) zc)))) zJ) (zQc (zY (z5 zb0 (pv 1) zi (nomark _)) (zh (zo (zp (pv 0) T.zB T.zv6 zx3 hr T.zxZ .nil zj (za (zu zA (pv 2) zi (fun _ _=>rfl)) zc)))) zJ) (zQc (zY (z5 zb0 (pv 1) zi (nomark _)) (zh (zo (zp (pv 0) T.zB T.zu2 zwr hr T.zwk .nil zj (za (zu zA (pv 2) zi (fun _ _=>rfl)) (za (zu zA (pv 2) zi (fun _ _=>rfl)) zc))))) zJ) (zQc (zY (z5 zb0 (pv 1) zi (nomark _)) (zh (zo (zp (pv 0) T.zB T.zrO ztx hr T.zts .nil zj (za (zu zA (pv 2) zi (fun _ _=>rfl)) (za (zu zA (pv 2) zi (fun _ _=>rfl)) zc))))) zJ) (zQc (zY (z5 zb0 (pv 1) zi (nomark _)) (zh (zo (zp (pv 0) T.zB T.ztk zvl hr T.zvd .nil zj (za (zu zA (pv 2) zi (fun _ _=>rfl)) zc)))) zJ) (zQc (zY (z5 zb0 (pv 1) zi (nomark _)) (zh (zo (zp (pv 0) T.zB T.zu3 zws hr T.zwl .nil zj (za (zu zA (pv 2) zi (fun _ _=>rfl)) (za (zu zA (pv 3) zi (fun _ _=>rfl)) zc))))) zJ) (zQc (zY (z5 zb0 (pv 1) zi (nomark _)) (zh (zo (zp (pv 0) T.zB T.zqT zr2 hr T.zrY .nil zj (za (zu zA (pv 2) zi (fun _ _=>rfl)) (za (zu zA (pv 2) zi (fun _ _=>rfl)) (za (zu zA (pv 2) zi (fun _ _=>rfl)) zc)))))) zJ) (zQc (zY (z5 zb0 (pv 1) zi (nomark _)) (zh (zo (zp (pv 0) T.zB T.zqU zr3 hr T.zrZ .nil zj (za (zu zA (pv 2) zi (fun _ _=>rfl)) (za (zu zA (pv 2) zi (fun _ _=>rfl)) (za (zu zA (pv 3) zi (fun _ _=>rfl)) zc)))))) zJ) (zQc (zY (z5 zb0 (pv 1) zi (nomark _)) (zh (zo (zp (pv 0) T.zB T.zv7 zx4 hr T.zx0 .nil zj (za (zu zA (pv 2) zi (fun _ _=>rfl)) (za (zu zA (pv 2) zi (fun _ _=>rfl)) (za (zu zA (pv 2) zi (fun _ _=>rfl)) (za (zu zA (pv 3) zi (fun _ _=>rfl)) zc))))))) zJ) (zQc (zY (z5 zb0 (pv 1) zi (nomark _)) (zh (zo (zp (pv 0) T.zB T.ztl zvm hr T.zve .nil zj (za (zu zA (pv 2) zi (fun _ _=>rfl)) (za (zu zA (pv 2) zi (fun _ _=>rfl)) (za (zu zA (pv 3) zi (fun _ _=>rfl)) zc)))))) zJ) (zQc (zY (z5 zb0 (pv 1) zi (nomark _)) (zh (zo (zp (pv 0) T.zB T.ztm zvn hr T.zvf .nil zj (za (zu zA (pv 2) zi (fun _ _=>rfl)) zc)))) zJ) (zQl (zh (zo (zp (pv 0) T.zB T.zu4 zwt hr T.zwm .nil zj (za (zu zA (pv 2) zi (fun _ _=>rfl)) zc)))) ?_)))))))))))));intros
 have ins :∃d fs,H bk=some (.ins A.zax d fs)/\∀mth:Str,¬mth = "course"->¬mth = "held"->fs.lookup mth=none:=by
  obtain⟨d,pa,b,r,cv,n,N,bs,qs,ras,BP,_⟩:=id BA
  exact⟨d,_,BP.ins,fun mth h1 h2=>za6 _ _ h1 h2⟩
 obtain⟨d,fs,hbk,hno⟩:=ins
 refine⟨_,rfl,rfl,_,rfl,?_⟩
 refine zaZ (fun e=>?_) (fun n0=>?_)
 ·cases k with
  | plan a p b r=>
   obtain⟨x,y,rfl,hx,hy⟩:=RL.two_inv
   exact⟨_,rfl,bk,d,fs,rfl,hbk,hno _ (by decide) (by decide),_,rfl,nl,_,_,_,rfl,rfl,SqL.of hn,rfl,_,rfl,nl,_,_,_,rfl,rfl,SqL.of hn,rfl,_,rfl,rl,_,_,_,rfl,rfl,SqL.of hrl,rfl,_,rfl,rl,_,_,_,rfl,rfl,SqL.of hrl,rfl,bk,x,y,m,a,p,b,r,rfl,BA,SqL.of hx,SqL.of hy,ok.2.2.1.2,ok.2.2.2.2,kk⟩
  | _=>cases e
 refine⟨_,rfl,rfl,_,rfl,?_⟩
 refine zaZ (fun e=>?_) (fun n1=>?_)
 ·cases k with
  | set l=>
   obtain⟨x,rfl,hx⟩:=RL.one_inv
   exact⟨_,rfl,bk,d,fs,rfl,hbk,hno _ (by decide) (by decide),_,rfl,rl,_,_,_,rfl,rfl,SqL.of hrl,rfl,bk,x,m,l,rfl,BA,SqL.of hx,nLt ok.2 (by decide),ok.1,kk⟩
  | _=>cases e
 refine⟨_,rfl,rfl,_,rfl,?_⟩
 refine zaZ (fun e=>?_) (fun n2=>?_)
 ·cases k with
  | fault t=>
   exact⟨_,rfl,bk,d,fs,rfl,hbk,hno _ (by decide) (by decide),_,rfl,nl,_,_,_,rfl,rfl,SqL.of hn,rfl,bk,m,t,rfl,BA,kk⟩
  | _=>cases e
 refine⟨_,rfl,rfl,_,rfl,?_⟩
 refine zaZ (fun e=>?_) (fun n3=>?_)
 ·cases k with
  | run t=>
   exact⟨_,rfl,bk,d,fs,rfl,hbk,hno _ (by decide) (by decide),_,rfl,nl,_,_,_,rfl,rfl,SqL.of hn,rfl,bk,m,t,rfl,BA,kk⟩
  | _=>cases e
 refine⟨_,rfl,rfl,_,rfl,?_⟩
 refine zaZ (fun e=>?_) (fun n4=>?_)
 ·cases k with
  | path a t=>
   exact⟨_,rfl,bk,d,fs,rfl,hbk,hno _ (by decide) (by decide),_,rfl,nl,_,_,_,rfl,rfl,SqL.of hn,rfl,_,rfl,nl,_,_,_,rfl,rfl,SqL.of hn,rfl,bk,m,a,t,rfl,BA,kk⟩
  | _=>cases e
 refine⟨_,rfl,rfl,_,rfl,?_⟩
 refine zaZ (fun e=>?_) (fun n5=>?_)
 ·cases k with
  | slopes a t=>
   exact⟨_,rfl,bk,d,fs,rfl,hbk,hno _ (by decide) (by decide),_,rfl,nl,_,_,_,rfl,rfl,SqL.of hn,rfl,_,rfl,nl,_,_,_,rfl,rfl,SqL.of hn,rfl,bk,m,a,t,rfl,BA,kk⟩
  | _=>cases e
 refine⟨_,rfl,rfl,_,rfl,?_⟩
 refine zaZ (fun e=>?_) (fun n6=>?_)
 ·cases k with
  | table t=>
   exact⟨_,rfl,bk,d,fs,rfl,hbk,hno _ (by decide) (by decide),_,rfl,nl,_,_,_,rfl,rfl,SqL.of hn,rfl,bk,m,t,rfl,BA,kk⟩
  | _=>cases e
 refine⟨_,rfl,rfl,_,rfl,?_⟩
 refine zaZ (fun e=>?_) (fun n7=>?_)
 ·cases k with
  | pull t l=>
   have RO:=ok.2
   obtain⟨x,rfl,hx⟩:=RL.one_inv
   exact⟨_,rfl,bk,d,fs,rfl,hbk,hno _ (by decide) (by decide),_,rfl,nl,_,_,_,rfl,rfl,SqL.of hn,rfl,_,rfl,rl,_,_,_,rfl,rfl,SqL.of hrl,rfl,bk,m,t,x,l,rfl,BA,SqL.of hx,nLt RO.2 (by decide),RO.1,kk⟩
  | _=>cases e
 refine⟨_,rfl,rfl,_,rfl,?_⟩
 refine zaZ (fun e=>?_) (fun n8=>?_)
 ·cases k with
  | elastic a p t=>
   exact⟨_,rfl,bk,d,fs,rfl,hbk,hno _ (by decide) (by decide),_,rfl,nl,_,_,_,rfl,rfl,SqL.of hn,rfl,_,rfl,nl,_,_,_,rfl,rfl,SqL.of hn,rfl,_,rfl,nl,_,_,_,rfl,rfl,SqL.of hn,rfl,bk,m,a,p,t,rfl,BA,kk⟩
  | _=>cases e
 refine⟨_,rfl,rfl,_,rfl,?_⟩
 refine zaZ (fun e=>?_) (fun n9=>?_)
 ·cases k with
  | whatIf a t l=>
   have RO:=ok.2.2
   obtain⟨x,rfl,hx⟩:=RL.one_inv
   exact⟨_,rfl,bk,d,fs,rfl,hbk,hno _ (by decide) (by decide),_,rfl,nl,_,_,_,rfl,rfl,SqL.of hn,rfl,_,rfl,nl,_,_,_,rfl,rfl,SqL.of hn,rfl,_,rfl,rl,_,_,_,rfl,rfl,SqL.of hrl,rfl,bk,m,a,t,x,l,rfl,BA,SqL.of hx,nLt RO.2 (by decide),RO.1,kk⟩
  | _=>cases e
 refine⟨_,rfl,rfl,_,rfl,?_⟩
 refine zaZ (fun e=>?_) (fun n10=>?_)
 ·cases k with
  | aim a p t l=>
   have RO:=ok.2.2.2
   obtain⟨x,rfl,hx⟩:=RL.one_inv
   exact⟨_,rfl,bk,d,fs,rfl,hbk,hno _ (by decide) (by decide),_,rfl,nl,_,_,_,rfl,rfl,SqL.of hn,rfl,_,rfl,nl,_,_,_,rfl,rfl,SqL.of hn,rfl,_,rfl,nl,_,_,_,rfl,rfl,SqL.of hn,rfl,_,rfl,rl,_,_,_,rfl,rfl,SqL.of hrl,rfl,bk,m,a,p,t,x,l,rfl,BA,SqL.of hx,nLt RO.2 (by decide),RO.1,kk⟩
  | _=>cases e
 refine⟨_,rfl,rfl,_,rfl,?_⟩
 refine zaZ (fun e=>?_) (fun n11=>?_)
 ·cases k with
  | first a t l=>
   have RO:=ok.2.2
   obtain⟨x,rfl,hx⟩:=RL.one_inv
   exact⟨_,rfl,bk,d,fs,rfl,hbk,hno _ (by decide) (by decide),_,rfl,nl,_,_,_,rfl,rfl,SqL.of hn,rfl,_,rfl,nl,_,_,_,rfl,rfl,SqL.of hn,rfl,_,rfl,rl,_,_,_,rfl,rfl,SqL.of hrl,rfl,bk,m,a,t,x,l,rfl,BA,SqL.of hx,nLt RO.2 (by decide),RO.1,kk⟩
  | _=>cases e
 refine⟨_,rfl,rfl,_,rfl,?_⟩
 refine zaZ (fun e=>?_) (fun n12=>?_)
 ·cases k with
  | total t=>
   exact⟨_,rfl,bk,d,fs,rfl,hbk,hno _ (by decide) (by decide),_,rfl,nl,_,_,_,rfl,rfl,SqL.of hn,rfl,bk,m,t,rfl,BA,kk⟩
  | _=>cases e
 cases k with
 | code t=>
  exact⟨_,rfl,bk,d,fs,rfl,hbk,hno _ (by decide) (by decide),_,rfl,nl,_,_,_,rfl,rfl,SqL.of hn,rfl,bk,m,t,rfl,BA,kk⟩
 | plan=>exact absurd rfl n0
 | set=>exact absurd rfl n1
 | fault=>exact absurd rfl n2
 | run=>exact absurd rfl n3
 | path=>exact absurd rfl n4
 | slopes=>exact absurd rfl n5
 | table=>exact absurd rfl n6
 | pull=>exact absurd rfl n7
 | elastic=>exact absurd rfl n8
 | whatIf=>exact absurd rfl n9
 | aim=>exact absurd rfl n10
 | first=>exact absurd rfl n11
 | total=>exact absurd rfl n12
open Sp (zad flat zgr zek za5 zdU)
open Vagrao (Call)
def NP(o:HO):Prop:=∀C d fs,o=.ins C d fs->fs.lookup ("place" : Str)=none
theorem NP.lst{xs:List V}:NP (.lst xs):=fun _ _ _ e=>by cases e
theorem NP.tup{xs:List V}:NP (.tup xs):=fun _ _ _ e=>by cases e
theorem NP.ins{C d:Addr}{fs:List (Str×V)}(h:fs.lookup ("place" : Str)=none):NP (.ins C d fs):=fun _ _ _ e=>by cases e;exact h
theorem NP.ne{H:Hp}{x b C d l:Addr}{p:Int}{o:HO}(hx:H x=some (.ins C d (zaf l p)))(h:H b=some o)(n:NP o):b≠x:=fun e=>by
 rw[e,hx]at h
 cases h
 have:=n _ _ _ rfl
 rw[zb1]at this
 cases this
section
variable {H H':Hp}(kp :∀b o,H b=some o->NP o->H' b=some o)
include kp
theorem zT.np{C:Addr}{as:List Addr}{qs:List zav}(h:zT C H as qs):zT C H' as qs:=by
 induction h with
 | nil=>exact .nil
 | cons h t ih=>exact .cons (let⟨d,e⟩:=h;⟨d,kp _ _ e (NP.ins (by unfold zen;simp only[zy];rfl))⟩) ih
theorem zam.np{as:List Addr}{qs:List Rat}(h:zam H as qs):zam H' as qs:=by
 induction h with
 | nil=>exact .nil
 | cons h t ih=>exact .cons (kp _ _ h NP.tup) ih
theorem zal.np{as:List Addr}{rows:List (List Int)}(h:zal H as rows):zal H' as rows:=by
 induction h with
 | nil=>exact .nil
 | cons h t ih=>exact .cons ⟨kp _ _ h.1 NP.lst,h.2⟩ ih
theorem zan.np{c pr rs ss ff:Addr}{qs:List zav}{ps:List Rat}{pl:Vagrao.Plan}{W:Nat}{sa:List Addr}{fl:List Int}(C:zan A H c pr rs ss ff qs ps pl W sa fl):zan A H' c pr rs ss ff qs ps pl W sa fl:=by
 obtain⟨dx,hc⟩:=C.ins
 obtain⟨ras,h1,h2⟩:=C.rules
 obtain⟨qas,h3,h4⟩:=C.vals
 refine⟨⟨dx,kp _ _ hc (NP.ins (zaz _ _ _ _))⟩,⟨ras,kp _ _ h1 NP.lst,zT.np kp h2⟩,⟨qas,kp _ _ h3 NP.lst,zam.np kp h4⟩,kp _ _ C.sheets NP.lst,C.pos,fun i a ha=>?_,kp _ _ C.fau NP.lst,C.fl⟩
 obtain⟨r,l,as,sh,lines,u,S,e,o,z⟩:=C.each i a ha
 obtain⟨d,cs,hs,dcs,ddc,fsc,g1,g2,g3⟩:=S.ins
 exact⟨r,l,as,sh,lines,u,⟨⟨d,cs,kp _ _ hs (NP.ins (by unfold zcc;simp only[zy];rfl)),dcs,ddc,fsc,kp _ _ g1 (NP.ins (by unfold zdv;simp only[zy];rfl)),kp _ _ g2 (fun _ _ _ e=>by cases e),g3⟩,kp _ _ S.rows NP.lst,zal.np kp S.row,kp _ _ S.lin NP.lst,S.sep⟩,e,o,z⟩
theorem zaE.np{bk:Addr}{m:Sp.M}(h:zaE A H bk m):zaE A H' bk m:=by
 obtain⟨d,pa,b,r,cv,n,N,bs,qs,ras,B,h⟩:=h
 obtain⟨dp,hp⟩:=B.plan
 refine⟨d,pa,b,r,cv,n,N,bs,qs,ras,⟨kp _ _ B.ins (NP.ins (za6 _ _)),⟨dp,kp _ _ hp (NP.ins (by unfold zcP;simp only[zy];rfl))⟩,kp _ _ B.begs NP.lst,kp _ _ B.ruls NP.lst,zT.np kp B.rule,B.is⟩,?_⟩
 rcases h with h|⟨c,rs,ss,ff,ps,sa,fl,e,C⟩
 ·exact .inl h
 ·exact .inr ⟨c,rs,ss,ff,ps,sa,fl,e,C.vals,zan.np kp C.at_,C.v15,C.few⟩
end
def stM(m:Sp.M)(ks:List Call):Sp.M:=ks.foldl (fun m k=>(za5 m k).1) m
theorem zsP(k:Call) :∀(ks:List Call) (m:Sp.M),zek m (ks++[k])=zek m ks++[(za5 (stM m ks) k).2]
 | [],m=>rfl
 | j::ks,m=>by
  show(za5 m j).2::zek (za5 m j).1 (ks++[k])=(za5 m j).2::(zek (za5 m j).1 ks++_)
  rw[zsP k ks]
  rfl
theorem zz8(m:Sp.M)(ks:List Call)(k:Call):stM m (ks++[k])=(za5 (stM m ks) k).1:=by
 unfold stM
 rw[List.foldl_append]
 rfl
theorem zuS(l:List (List Int))(a:List Int):zdU (l++[a])=zdU l++((a.length:Int)::a):=by
 unfold zdU
 rw[List.flatMap_append,List.flatMap_cons,List.flatMap_nil,List.append_nil]
 rfl
theorem zBb{ks:List Call}{i:Nat}{k:Call}(h:ks[i]? = some k) :∃rest,(ks.flatMap flat).drop ((ks.take i).flatMap flat).length=flat k++rest/\((ks.take (i+1)).flatMap flat).length=((ks.take i).flatMap flat).length+(flat k).length:=by
 have hlt:i<ks.length:=(List.getElem?_eq_some_iff.mp h).1
 have e:ks=ks.take i++k::ks.drop (i+1):=by
  have h1:ks.drop i=k::ks.drop (i+1):=by
   rw[List.drop_eq_getElem_cons hlt]
   congr 1
   exact(List.getElem?_eq_some_iff.mp h).2
  rw[<-h1,List.take_append_drop]
 have e0:ks.flatMap flat=(ks.take i++k::ks.drop (i+1)).flatMap flat:=congrArg (List.flatMap flat) e
 refine⟨(ks.drop (i+1)).flatMap flat,?_,?_⟩
 ·rw[e0,List.flatMap_append,List.drop_left,List.flatMap_cons]
 ·rw[Pr.zab h,List.flatMap_append,lEa,List.flatMap_cons,List.flatMap_nil,List.append_nil]
theorem zz9(T:Txt K mg A)(k:Call) :∃sp,valV [((0:Int),V.ref A.zmc),(1,.ref A.zmd),(2,.ref A.zme),(3,.ref A.zmf),(4,.ref A.zmg),(5,.ref A.zmh),(6,.ref A.zmi),(7,.ref A.zmj),(8,.ref A.zmk),(9,.ref A.zml),(10,.ref A.zkM),(11,.ref A.zkN),(12,.ref A.zkO),(13,.ref A.zkP)] (idOf k:Int)=some (.ref sp)/\∀H,SqT K H sp [.int ((numsOf k).length:Int),.int ((zeB k).length:Int)]:=by
 cases k with
 | plan a p b r=>exact⟨_,rfl,T.zxN⟩
 | set l=>exact⟨_,rfl,T.zxO⟩
 | fault t=>exact⟨_,rfl,T.zxP⟩
 | run t=>exact⟨_,rfl,T.zxQ⟩
 | path a t=>exact⟨_,rfl,T.zxR⟩
 | slopes a t=>exact⟨_,rfl,T.zxS⟩
 | table t=>exact⟨_,rfl,T.zxT⟩
 | pull t l=>exact⟨_,rfl,T.zxU⟩
 | elastic a p t=>exact⟨_,rfl,T.zxV⟩
 | whatIf a t l=>exact⟨_,rfl,T.zxW⟩
 | aim a p t l=>exact⟨_,rfl,T.zwb⟩
 | first a t l=>exact⟨_,rfl,T.zwc⟩
 | total t=>exact⟨_,rfl,T.zwd⟩
 | code t=>exact⟨_,rfl,T.zwe⟩
theorem zAa(k:Call):(zeB k).length<=10:=by cases k<;>simp[zeB]
theorem zaE.fewP{H:Hp}{bk:Addr}{m:Sp.M}(h:zaE A H bk m):Few m.plan:=by
 obtain⟨d,pa,b,r,cv,n,N,bs,qs,ras,B,h⟩:=h
 exact B.is.fewP
inductive zBZ(K:Fg)(vs:List V)(H:Hp)(Q:VK)(E:XK):Prop|I:∀(a:Addr) (ks:List Call),vs=[.ref a]->SqL K H a ((ks.flatMap flat).map V.int)->ks.length<=400->(∀k,k∈ks->zgr k)->(∀(H':Hp) (p:Addr),H' p=some (.lst ((zdU (zek ze3 ks)).map V.int))->Q (.ref p) H')->zBZ K vs H Q E
open Sp (zad flat zgr zek za5 zdU)
open Vagrao (Call)
theorem zuT{H:Hp}{f:Addr}:zq (hide H f) H:=fun b o h=>(zm5 h).2
theorem zpF{H:Hp}{f:Addr}{o:HO}(h:H f=none):hide (upd H f o) f=H:=by
 funext b
 by_cases e:b=f
 ·rw[e,zj2,h]
 ·rw[zbV e,zf e]
theorem zBc{H H':Hp}{f x:Addr}(kp :∀b o,H b=some o->b≠x->H' b=some o) :∀b o,hide H f b=some o->b≠x->hide H' f b=some o:=fun b o h hn=>by
 obtain⟨ne,h⟩:=zm5 h
 rw[zbV ne]
 exact kp b o h hn
theorem SqL.keeps{H H':Hp}{a:Addr}{ns:List Int}(h:SqL K H a (ns.map V.int))(kk:zS H H'):SqL K H' a (ns.map V.int):=by
 rcases h with(h|⟨o,h⟩)|h
 ·exact .inl (.inl (kk _ _ h (.inl ⟨ns,rfl⟩)))
 ·exact .inl (.inr ⟨o,kk _ _ h (.inr (.inl ⟨o,_,rfl⟩))⟩)
 ·exact .inr h
structure Loop(K:Fg)(A:Ad)(ks:List Call)(a x dx bk f:Addr)(i:Nat)(H:Hp):Prop where
 le:i<=ks.length
 rd:H x=some (.ins A.zaa dx (zaf a ((((ks.take i).flatMap flat).length:Nat):Int)))
 calls:SqL K (hide H f) a ((ks.flatMap flat).map V.int)
 book:zaE A (hide H f) bk (stM ze3 (ks.take i))
 found:H f=some (.lst ((zdU (zek ze3 (ks.take i))).map V.int))
 len:(zdU (zek ze3 (ks.take i))).length<=i*(BIG+1)
theorem zxJ(B:Bs P base)(T:Txt K mg A):zH P w K mg base CX0 52 A.zka A.zgQ ["calls"] (zBZ K):=by
 have zty:=(@zru P w K mg base A T).up 50
 have zwu:=(@zuO P w K mg base A T).up 50
 have zpY:=(@zoA P w K mg base A T).up 51
 have ziF:=(@zlj P w K mg base A T).up 51
 have zfg:=(@zg1 P w K mg base A T).up 51
 have zn7:=(@zmV P w K mg base A T).up 51
 have zvo:=ztf (w:=w) B T
 refine T.zmo.ok zc1 (fun _ _ _ _ h=>?_) fun _ _ _ s H vs Q E hr h=>?_
 ·obtain⟨a,ks,rfl,_⟩:=h
  rfl
 obtain⟨a,ks,rfl,ha,h400,hks,k⟩:=h
 refine zQa (qD 1 zc1.nd (zc8 T.zy8 zty hr rfl T.zy7 T.ztt .nil zj (za (pv 0) zc))) (zQc (qD 2 zc1.nd (zzj T.zBg zwu hr rfl T.zBe T.zwi .nil zj)) (zQc (qD 3 zc1.nd (zL zc)) (zQc (zlG PassesOwn.never (zgo (zaG (zi4 (pv 1) T.zbp T.zoD zpY hr T.zpV .nil zj) (fun _=>rfl))) (ze (qD 4 zc1.nd (zi4 (pv 1) T.zbp T.zlr ziF hr T.zmS .nil zj))
  (ze (qD 5 zc1.nd (zu zzy (zn9 (v:=.ref A.zmb) rfl T.zAc rfl) (pv 4) (fun _ _=>rfl)))
  (ze (qD 6 zc1.nd (zp (pv 1) T.zbp T.zg2 zfg hr T.zh8 .nil zj (za (zu z6 (pv 5) zi (fun _ _=>rfl)) zc)))
  (ze (qD 7 zc1.nd (zp (pv 1) T.zbp T.zmW zn7 hr T.zn5 .nil zj (za (zu z6 (pv 5) zi (fun _ _=>rfl)) zc)))
  (ze (qD 8 zc1.nd (zAH (zw zvo hr rfl T.ztn T.ziC.kp T.zvg .nil zj (za (pv 2) (za (pv 4) (za (pv 6) (za (pv 7) zc)))))))
  (ze (zay (zeh PySem.F.plainAttrs_list PySem.F.slot_list_append PySem.F.type_list_append zdt (pv 3) (za (zaN zaC (by rfl) T.zcw PySem.boot_len (za (pv 8) zc)) zc)))
  (zh (zay (zeh PySem.F.plainAttrs_list PySem.F.slot_list_extend PySem.F.type_list_extend zfh (pv 3) (za (pv 8) zc))))))))))) (zQl (zh (zo (pv 3))) ?_))));intros
 refine⟨_,rfl,?_⟩
 intro x dx hx hdx hne
 refine⟨x,dx,a,rfl,zd,rfl,?_⟩
 rw[zaS]
 have s1:zq H (upd (upd H dx (.own x)) x (.ins A.zaa dx (zaf a 0))):=(zl hdx).trans (zl (by rw[zf (fun z=>hne z.symm)];exact hx))
 have hx1:upd (upd H dx (.own x)) x (.ins A.zaa dx (zaf a 0)) x=some (.ins A.zaa dx (zaf a 0)):=zd
 generalize upd (upd H dx (.own x)) x (.ins A.zaa dx (zaf a 0))=H1 at s1 hx1
 intro bk db hb hdb hneb
 have s2:zq H1 (upd (upd H1 db (.own bk)) bk (.ins A.zax db [])):=(zl hdb).trans (zl (by rw[zf (fun z=>hneb z.symm)];exact hb))
 have hb1:upd (upd H1 db (.own bk)) bk (.ins A.zax db []) bk=some (.ins A.zax db []):=zd
 have nb :∀c o,H1 c=some o->c≠bk:=fun c o hc=>zk hc hb
 generalize upd (upd H1 db (.own bk)) bk (.ins A.zax db [])=H2 at s2 hb1
 refine⟨bk,db,rfl,hb1,fun H3 BA kp=>⟨rfl,?_⟩⟩
 have s3:zq H1 H3:=fun c o hc=>kp c o (s2 c o hc) (nb c o hc)
 refine⟨Nat.zero_le _,fun f hf=>?_⟩
 have s4:zq H3 (upd H3 f (.lst [])):=zl hf
 have hid:hide (upd H3 f (.lst [])) f=H3:=zpF hf
 have L0:Loop K A ks a x dx bk f 0 (upd H3 f (.lst [])):=⟨Nat.zero_le _,s4 _ _ (s3 _ _ hx1),by rw[hid];exact(s1.trans s3).seq ha,by rw[hid];exact BA,zd,Nat.zero_le _⟩
 refine⟨fun m σ H'=>∃(i:Nat) (v4 v5 v6 v7 v8:Option V),σ = [some (.ref a),some (.ref x),some (.ref bk),some (.ref f),v4,v5,v6,v7,v8]/\m=ks.length-i/\Loop K A ks a x dx bk f i H',⟨ks.length,0,none,none,none,none,none,rfl,rfl,L0⟩,?_⟩
 rintro m σ H4 ⟨i,v4,v5,v6,v7,v8,rfl,rfl,L⟩
 refine⟨_,rfl,x,dx,_,rfl,L.rd,zj8 _ _ (by decide) (by decide),x,dx,a,_,_,rfl,L.rd,zuT.seq L.calls,_,rfl,?_⟩
 rw[lmm]
 have hle:=L.le
 by_cases hi:i<ks.length
 ·obtain⟨kc,hkc⟩ :∃kc,ks[i]? = some kc:=⟨_,gge hi⟩
  have okc:=hks kc (mge hkc)
  obtain⟨rest,hdrop,hlen⟩:=zBb hkc
  have hfl:=zBa kc
  generalize hp:((ks.take i).flatMap flat).length=p at hdrop hlen
  have hrd:=L.rd
  rw[hp]at hrd
  rw[hfl]at hdrop hlen
  have hpl:p<(ks.flatMap flat).length:=by
   have:=congrArg List.length hdrop
   rw[List.length_drop,lEa,List.length_cons]at this
   omega
  rw[decide_eq_false (by omega:¬(((ks.flatMap flat).length:Int)<=(p:Int)))]
  refine zaY ⟨fun σ' H'=>∃m':Nat,m'<ks.length-i/\∃(i:Nat) (v4 v5 v6 v7 v8:Option V),σ'=[some (.ref a),some (.ref x),some (.ref bk),some (.ref f),v4,v5,v6,v7,v8]/\m'=ks.length-i/\Loop K A ks a x dx bk f i H',fun σ' H' q=>q,?_⟩
  have hcalls:SqL K H4 a ((ks.flatMap flat).map V.int):=zuT.seq L.calls
  have hxf:x≠f:=zI hrd L.found (by intro z;cases z)
  have hget:(ks.flatMap flat)[p]? = some (idOf kc:Int):=by
   have:((ks.flatMap flat).drop p)[0]? = some (idOf kc:Int):=by rw[hdrop];rfl
   rwa[List.getElem?_drop,Nat.add_zero]at this
  have hd1:(ks.flatMap flat).drop (p+1)=numsOf kc++((zeB kc).flatMap zad++rest):=by
   rw[<-List.drop_drop,hdrop]
   show(numsOf kc++(zeB kc).flatMap zad)++rest=_
   rw[lAa]
  have hd2:(ks.flatMap flat).drop (p+1+(numsOf kc).length)=(zeB kc).flatMap zad++rest:=by
   rw[<-List.drop_drop,hd1,List.drop_left]
  have hl1:p+1+(numsOf kc).length<=(ks.flatMap flat).length:=by
   have:=congrArg List.length hd1
   rw[List.length_drop,lEa]at this
   omega
  obtain⟨sh,hsh1,hsh2⟩:=zz9 T kc
  refine⟨_,rfl,x,dx,_,rfl,hrd,zj8 _ _ (by decide) (by decide),x,dx,a,p,_,_,rfl,hrd,hcalls,(by rw[gEm,hget];rfl),?_⟩
  have hx5:upd H4 x (.ins A.zaa dx (zaf a ((p+1:Nat):Int))) x=some (.ins A.zaa dx (zaf a ((p+1:Nat):Int))):=zd
  have k5 :∀b o,H4 b=some o->b≠x->upd H4 x (.ins A.zaa dx (zaf a ((p+1:Nat):Int))) b=some o:=fun b o hb hn=>by rw[zf hn];exact hb
  generalize upd H4 x (.ins A.zaa dx (zaf a ((p+1:Nat):Int)))=H5 at hx5 k5
  have hcalls5:SqL K H5 a ((ks.flatMap flat).map V.int):=SqL.but hcalls hrd k5
  refine⟨_,rfl,A.zmb,_,_,_,rfl,rfl,T.zAd,hsh1,?_⟩
  refine⟨_,rfl,x,dx,_,rfl,hx5,zj8 _ _ (by decide) (by decide),_,rfl,sh,_,_,_,rfl,rfl,hsh2 _,rfl,?_⟩
  refine⟨x,dx,a,p+1,(numsOf kc).length,_,rfl,hx5,hcalls5,(by rw[lmm];exact hl1),fun nl hnl=>?_⟩
  rw[<-List.map_drop,<-List.map_take,hd1,List.take_left]
  have nlx:nl≠x:=fun z=>by rw[z,hx5]at hnl;cases hnl
  have hx6:upd (upd H5 nl (.lst ((numsOf kc).map V.int))) x (.ins A.zaa dx (zaf a ((p+1+(numsOf kc).length:Nat):Int))) x=some (.ins A.zaa dx (zaf a ((p+1+(numsOf kc).length:Nat):Int))):=zd
  have hnl6:upd (upd H5 nl (.lst ((numsOf kc).map V.int))) x (.ins A.zaa dx (zaf a ((p+1+(numsOf kc).length:Nat):Int))) nl=some (.lst ((numsOf kc).map V.int)):=by rw[zf nlx,zd]
  have k6 :∀b o,H5 b=some o->b≠x->upd (upd H5 nl (.lst ((numsOf kc).map V.int))) x (.ins A.zaa dx (zaf a ((p+1+(numsOf kc).length:Nat):Int))) b=some o:=fun b o hb hn=>by rw[zf hn,zf (zk hb hnl)];exact hb
  generalize upd (upd H5 nl (.lst ((numsOf kc).map V.int))) x (.ins A.zaa dx (zaf a ((p+1+(numsOf kc).length:Nat):Int)))=H6 at hx6 hnl6 k6
  refine⟨_,rfl,x,dx,_,rfl,hx6,zj8 _ _ (by decide) (by decide),_,rfl,sh,_,_,_,rfl,rfl,hsh2 _,rfl,?_⟩
  refine⟨x,dx,a,p+1+(numsOf kc).length,ks.flatMap flat,zeB kc,rest,rfl,hx6,SqL.but hcalls5 hx5 k6,hd2,zAa kc,fun H7 rl ras k7 hx7 hrl0 hrl RL fresh=>?_⟩
  have kp7 :∀b o,H4 b=some o->b≠x->H7 b=some o:=fun b o hb hn=>k7 b o (k6 b o (k5 b o hb hn) hn) hn
  have hf7:=kp7 _ _ L.found (fun z=>hxf z.symm)
  have hfree :∀b,H6 b=none->b≠f:=fun b hb z=>by
   have:=k6 _ _ (k5 _ _ L.found (fun z=>hxf z.symm)) (fun z=>hxf z.symm)
   rw[z,this]at hb;cases hb
  have hnlf:nl≠f:=fun z=>by
   have:=k5 _ _ L.found (fun z=>hxf z.symm)
   rw[z,this]at hnl;cases hnl
  have kh7:=zBc (f:=f) kp7
  have hrdh:hide H4 f x=some (.ins A.zaa dx (zaf a ((p:Nat):Int))):=by rw[zbV hxf];exact hrd
  have book7:zaE A (hide H7 f) bk (stM ze3 (ks.take i)):=zaE.np (fun b o hb hn=>kh7 b o hb (NP.ne hrdh hb hn)) L.book
  have calls7:SqL K (hide H7 f) a ((ks.flatMap flat).map V.int):=SqL.but L.calls hrdh kh7
  have hx7h:hide H7 f x=some (.ins A.zaa dx (zaf a ((p+1+(numsOf kc).length+((zeB kc).flatMap zad).length:Nat):Int))):=by rw[zbV hxf];exact hx7
  refine⟨f,_,hf7,_,rfl,_,rfl,_,rfl,_,rfl,?_⟩
  refine⟨bk,nl,rl,_,kc,ras,rfl,okc,book7,(by rw[zbV hnlf];exact k7 _ _ hnl6 nlx),(by rw[zbV (hfree _ hrl0)];exact hrl),RL.kept (fun b xs hb hbx=>by rw[zbV (hfree _ (fresh b hb))];exact hbx),fun H8 l BA8 kk8 hl8 hf8=>?_⟩
  have hx8:=kk8 _ _ hx7h (.inr (.inr (.inl ⟨_,_,_,_,rfl⟩)))
  have calls8:=SqL.keeps calls7 kk8
  have nlf:l≠f:=fun z=>by rw[z,hf8]at hl8;cases hl8
  have F:=L.book.fewP
  have hal:=zz7 F kc
  have hl0:=L.len
  have hbig:BIG=10000:=rfl
  have hib:i*(BIG+1)<=400*10001:=Nat.mul_le_mul (by omega) (by decide)
  refine⟨_,rfl,.inl ⟨rfl,_,SqL.of zd⟩,_,rfl,l,_,rfl,.inl (SqL.of (by rw[zf nlf];exact hl8)),f,_,_,rfl,rfl,zd,?_,?_⟩
  ·rw[lmm,sizeLine_eq]
   omega
  rw[zaS]
  refine⟨_,rfl,.inl ⟨rfl,_,SqL.of zd⟩,_,rfl,f,l,_,_,rfl,rfl,zd,.inl (by rw[zf nlf];exact hl8),?_,?_⟩
  ·rw[lEa,lmm,lmm,List.length_singleton,sizeLine_eq]
   omega
  rw[zaS]
  have et:zdU (zek ze3 (ks.take (i+1)))=zdU (zek ze3 (ks.take i))++(((za5 (stM ze3 (ks.take i)) kc).2.length:Int)::(za5 (stM ze3 (ks.take i)) kc).2):=by
   rw[Pr.zab hkc,zsP,zuS]
  refine⟨ks.length-(i+1),by omega,i+1,_,_,_,_,_,rfl,rfl,⟨hi,?_,?_,?_,?_,?_⟩⟩
  ·have e9:p+1+(numsOf kc).length+((zeB kc).flatMap zad).length=((ks.take (i+1)).flatMap flat).length:=by
    rw[hlen,List.length_cons,lEa]
    omega
   rw[zf hxf,hx8,e9]
  ·rw[zpF hf8];exact calls8
  ·rw[zpF hf8,Pr.zab hkc,zz8];exact BA8
  ·rw[zd,et,lMa,List.map_cons,lAa,lmm]
   rfl
  ·rw[et,lEa,List.length_cons,Nat.succ_mul]
   omega
 ·have e:i=ks.length:=by omega
  subst e
  have hrd:=L.rd
  rw[List.take_length]
  rw[decide_eq_true (Int.le_refl _)]
  refine zaT ?_
  refine⟨_,rfl,?_⟩
  have:=L.found
  rw[List.take_length]at this
  exact k H4 f this
end
end My
namespace My
open PySem PySem.Spec PyProof.Rows L2
inductive spAns(K:Fg)(vs:List V)(H:Hp)(Q:VK)(E:XK):Prop|I:∀(a:Addr) (ns:List Int),vs=[.ref a]->SqL K H a (ns.map V.int)->PyVagrao.answers_asked ns=true->ns.length<=16000->(∀(H':Hp) (p:Addr),H' p=some (.lst ((PyVagrao.answers ns).map V.int))->Q (.ref p) H')->spAns K vs H Q E
theorem zqP{P:Program}{w:World}{K:Fg}{mg:Str->Option Value}{base:Heap}{A:Ad}(B:Bs P base)(T:Txt K mg A):zH P w K mg base CX0 60 A.zka A.zgQ ["calls"] (spAns K):=by
 refine((zxJ (w:=w) B T).mono (by decide:52<=60)).imp fun vs H Q E h=>?_
 obtain⟨a,ns,rfl,hs,hask,hz,k⟩:=h
 obtain⟨ks,e1,e2,e3,e4⟩:=Sp.zxo hask
 rw[e1]at hs
 rw[e4]at k
 exact⟨a,ks,rfl,hs,e2,e3,k⟩
end My
structure PySem.W.Fast:Prop where(tw9483893223994514062 tw5956305656014821767 tw1071536233281227397 tw2161105759234934259 tw1262256513972029884 tw17137751852614271692 tw16331986912603589916 tw2032469950995000270 tw5930395385302939704 tw10660008118652510743 tw473521297002128865 tw13620568537481057758 tw1391695075045605129 tw3229736737344256269 tw5201208689400098694 tw15940500907584170632 tw2163899085496023789 tw8360057518903585556 tw9994862796409971676 tw933561014815853904 tw5969410693968218907 tw4871052575703155583 tw276638733673138412 tw16556973149144712836 tw9002059097648637757 tw12648433767467893158 tw12043757271312036990 tw17517257133194876950 tw4096802582646707025 tw13919760418810049419 tw17554494520859712676 tw7540274653799429343 tw9315012515840214163 tw5631558959354642290 tw7462894305062656587 tw5914513477490874025 tw5474585429358681744 tw11948183134026403963 tw15752753783211945859 tw4808982205404752494 tw6843797462971418268 tw18101352053134821857 tw8290687023199383808 tw10427629929607782334 tw3178061176975737697 tw11490563891624128240 tw14316590535422293372 tw10639974273821749494 tw10741151419227977971 tw10163088846352675200 tw14676190832140724857 tw11019931618821292644 tw2624094363091847843 tw6823631573234607780 tw7026313518716526740 tw4349639146090026643 tw16298075474053506384 tw9252297556967335987 tw10654977677831962638 tw14404335301582387550 tw15421142469942037745 tw16982593196398544889 tw12077126916692498184 tw9561645180589252732 tw16374676767258724658 tw15747484688647075707 tw17252600646246159259 tw2232999950427086042 tw6937881689918872057 tw16573492884861879166 tw13906783564325002117 tw7228449097247751227 tw4543243956533375947 tw18049458997159468855 tw982241660953529570 tw3819343125432001633 tw978549157553373225 tw16932008820270808342 tw4761591771010585236 tw10970137565415467346 tw3205625505080656782 tw3252926557195625005 tw3938961405923878928 tw1063003041104579953 tw10478960131068614871 tw8264041840010033043 tw4041219508113334046 tw5516851239308165434 tw18024561237364792415 tw10031154938521404657 tw2658745962352245442 tw15596715419615040763 tw7055113516421065537 tw206463325461624609 tw11892652886030505689 tw12085575371953598332 tw18196391111568836039 tw13465444081417180952 tw8121380514975620387 tw12607269499211155187 tw10357838020615286226 tw480236973016402225 tw4231039334441771774 tw16756535000567083151 tw14893049405893344927 tw4554180883301607568 tw18017670637403530676 tw441078392405665308 tw17291561072666468794 tw13338603058326702449 tw14928970824595032418 tw8793101397599734459 tw3163746010990428262 tw14391317314769046548 tw11310040806188061734 tw7050074952905382651 tw17594357300721131888 tw5413851999439966643 tw6610215422286049290 tw17725110232664476 tw8489582932768732929 tw1539997050058555662 tw7343260091498974024 tw3499200659852355864 tw10730473977242344216 tw4572325413997200959 tw8036849732136504076 tw9898278358297538998 tw6052180820815703047 tw1099474789959600019 tw17109799067206458773 tw7593230476496053613 tw3784087665655055886 tw161451248754070489 tw3092547331537909921 tw7952660739653881235 tw11481841313209394869 tw1964074101028165849 tw7782655868717202750 tw11908006049170770376 tw3909565990793171565 tw15436551460172118896 tw3503454484920090344 tw16205305780450258049 tw5796689991453700516 tw1326982911874271781 tw7762356180671579707 tw6649846638104847844 tw2778459424019922135 tw2650584950011361875 tw11525599053298372208 tw14046137952151465304 tw1358284595426190516 tw1786385112544806334 tw9597587998809863111 tw10815775391051615530 tw17884265817407148271 tw13974893612391947188 tw7310665064246166935 tw16634238185285948290 tw181017658442964965 tw9105523939345914321 tw18030408897479375063 tw10452212554431061201 tw10441254752618058621 tw16617869661887380030 tw7393048970072564558 tw12417665780769915787 tw5138311583593318875 tw12732240375338565091 tw5466052100613101081 tw11407948764239696650 tw4153192983048274707 tw13778903949485329340 tw10073459548260390457 tw15994063092226408235 tw4765006211415750094 tw7868184825732374528 tw17854432312257365523 tw527670377688858618 tw14674424891081466949 tw4880326809191795753 tw604359131493713700 tw6516074406927326224 tw18069313634156335870 tw12955532038057636219 tw8305323786528930919 tw901545827057603034 tw9208987473129104337 tw14322442540917189846 tw680775462387779154 tw17407197495403519785 tw11749244450475641695 tw3931833188033962443 tw8924375296925857519 tw7288476011860421240 tw15653293855709332140 tw12730775056816016045 tw14789357623060491307 tw296992182733756064 tw9288572257257454738 tw5512941783664916054 tw5309960604497704589 tw15824349207275841594 tw2930871710502053060 tw5570116332267711169 tw12056361036270309485 tw13067335373898556227 tw8589341304884060703 tw1509984013559536116 tw9811780395624903509 tw5690531225342727055 tw11914236371367379855 tw9093414872222495175 tw8452604839632889185 tw17138587370265972210 tw11237486304871624405 tw8215848606703180500 tw11223918926330148242 tw17616713213882260863 tw12960843827838766325 tw1071813718171246185 tw4334157393677696013 tw12796187247542868717 tw11619639664121182639 tw16848875168031204816 tw12037797670060177656 tw7643957524076074525 tw7423822725570709916 tw13823414023575123205 tw16271159271585569202 tw15995496004918054440 tw124093839640400888 tw2443271665679081841 tw9130731956275000909 tw16591352735446852160 tw333799369540323114 tw13027417702831062231 tw5605454755764403694 tw5487399762690138069 tw5621046388057407348 tw7831387549219593273 tw11615506151433270512 tw7984782988644091940 tw17878345248804274201 tw12946665427582286948 tw12614373199709804094 tw4072102447009673552 tw8472973147164900879 tw13847820571140854942 tw500089805211942883 tw10267952236265065458 tw1462850245799789989 tw2585165341770328301 tw12050536572989096197 tw9461440527550743401 tw1923248719827792892 tw4988984331037235563 tw3923213402506237955 tw8462723546823539506 tw15704656328062186591 tw3452197195139521753 tw5283601335972967846 tw15206480057937101920 tw13871561090620538097 tw15146856349371974212 tw12127512480715371212 tw8962756781038050985 tw6212894780525794744 tw15558965381950951538 tw16214120467413168850 tw6303450053563468002 tw8945114197789497637 tw14745548493583674696 tw13279483263110506904 tw12566049247335303948 tw15476977994741238760 tw741407755090990687 tw6138261254773002071 tw1120504634057170360 tw9063145510886037659 tw8058656216731365494 tw6923167314716036141 tw12249737067483596292 tw628011869634962715 tw16473331290341316767 tw6986745778117871103 tw12583901733129051079 tw10849501911673120705 tw5066322006370592691 tw374130093653762677 tw13106934339026475465 tw13775932183172457390 tw10049162523329407590 tw9734691933627744529 tw14076010049998287541 tw9698308309668772698:True)
open PySem PySem.W PyProof.Rows
set_option maxRecDepth 100000 in
set_option maxHeartbeats 0 in
theorem PySem.Challenge.cw_slopeplan_s01_answers_holds : PySem.Challenge.rw_slopeplan_s01_answers.Holds := by
 w_on;k_headS;(case hw=>exact⟨[.list [.int 13,.int 0]],by decide +kernel,by decide +kernel⟩)
 k_fillS
 refine L2.zxe (r:=PySem.Challenge.rw_slopeplan_s01_answers) (k:=60) (CX:=L2.CX0) (ps:=["calls"]) (sp:=My.spAns) (by decide +kernel) (by decide +kernel) rfl rfl ⟨rfl,by decide,by decide⟩ (fun w h Y=>PySem.W.kIn_of Y) ?F ?S (fun _ _ _ _ z=>z)
 case F=>
  intro w mg fa h Y KX G hmg
  have T :∃A,My.Txt (L2.KOf KX) mg A:=by
   dsimp only[L2.KOf]
   refine'⟨My.Ad.mk ..,My.Txt.mk ..⟩
   any_goals ((try dsimp only);(first|(refine' PySem.W.mg_of KX G ?_;k_is)|(refine' PySem.W.ns_none_of KX G ?_;k_is)|(refine' My.zBR KX G ?_;any_goals k_is)|(refine' My.zAW ?_ ?_ ?_;any_goals k_is)|(refine' My.zAX ?_ ?_ ?_ ?_;any_goals k_is)|(refine' L2.zBF ?_ ?_ ?_;any_goals k_is)|(refine' My.zCe ?_;any_goals k_is)|(refine' My.zBQ ?_;any_goals k_is)|(refine' My.zCf ?_;any_goals k_is)|(refine' My.zvN ?_;any_goals k_is)|(refine'⟨?_,?_,?_,?_⟩<;>k_is)|(refine'⟨?_,?_,?_⟩<;>k_is)|(show PySem.W.findIn _ _ _=_;k_is)))
   all_goals exact(0:Tok)
  obtain⟨A,T⟩:=T
  have e:=hmg.symm.trans T.zxL
  cases e
  exact⟨A.zgQ,fun s us hu=>by
   obtain⟨oc,od,kV,doc,pm,an,cdv,ct,osl,e,_⟩:=T.zmo.ex
   rw[e]
   exact match us,hu with|[_],_=>.of_eq rfl,fun base kb nb ns=>My.zqP ⟨rfl,ns⟩ T⟩
 case S=>
  intro K H xs a hO hwi hask hx
  cases hx with
  | cons h1 h2=>
   cases h2
   cases h1 with
   | lst hs ha=>
    have e:=L2.zwH a.1 _ ha
    subst e
    have q:((Codec.inLen 0 16000 a.1&&a.1.all (Codec.inInt (-1000000000000000000) 1000000000000000000))&&true)=true:=hwi
    rw[bAt,bAt]at q
    exact⟨_,a.1,rfl,hs,hask,(Codec.inNat_iff.mp q.1.1).2,fun H' p hp=>.lst (L2.SqL.of hp) (L2.zwG _)⟩
