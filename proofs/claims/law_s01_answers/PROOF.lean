import PyProof.Rows.All
import Wide.All
import OpenK.AllK
import Wide.FinOn
import PyProof.EqAt
import PyProof.EqKinds
import PyProof.TupleCall
import KE.BitLaws
import Open.SpecLaws
import KE.OsHead
import KE.OsGo
import KE.KTryMore
import KE.KDictList
import KE.KRevIter
import PySem.Challenge.RW_gameworth_s01_answers
set_option linter.all false
set_option maxRecDepth 100000
set_option maxHeartbeats 4000000
set_option Elab.async false
namespace Gth
inductive ae where
 |mk (l r:List ae)
def ae.left:ae->List ae
 |.mk l _=>l
def ae.right:ae->List ae
 |.mk _ r=>r
@[simp] theorem vy (l r:List ae):(ae.mk l r).left=l:=rfl
@[simp] theorem rA (l r:List ae):(ae.mk l r).right=r:=rfl
theorem nJ(g:ae):ae.mk g.left g.right=g:=by cases g;rfl
theorem ft{x g:ae}(h:x∈g.left):sizeOf x<sizeOf g:=by
 cases g with
 |mk l r=>have:=List.sizeOf_lt_of_mem (show x∈l from h);simp only[ae.mk.sizeOf_spec];omega
theorem dG{x g:ae}(h:x∈g.right):sizeOf x<sizeOf g:=by
 cases g with
 |mk l r=>have:=List.sizeOf_lt_of_mem (show x∈r from h);simp only[ae.mk.sizeOf_spec];omega
theorem ae.ind{P:ae->Prop}(h:∀g,(∀x∈g.left,P x)->(∀x∈g.right,P x)->P g):∀g,P g:=by
 intro g
 have:∀n,∀g:ae,sizeOf g<n->P g:=by
  intro n;induction n with
  |zero=>intro g hg;omega
  |succ n ih=>intro g hg;exact h g (fun x hx=>ih x (by have:=ft hx;omega)) (fun x hx=>ih x (by have:=dG hx;omega))
 exact this (sizeOf g+1) g (by omega)
def le(x y:ae):Prop:=(∀z:{z // z∈x.left},¬le y z.1)/\(∀z:{z // z∈y.right},¬le z.1 x)
termination_by sizeOf x+sizeOf y
decreasing_by
 ·have:=ft z.2;omega
 ·have:=dG z.2;omega
theorem bO{x y:ae}:le x y↔(∀z∈x.left,¬le y z)/\(∀z∈y.right,¬le z x):=by
 constructor
 ·intro h;rw[le]at h;exact⟨fun z hz=>h.1 ⟨z,hz⟩,fun z hz=>h.2 ⟨z,hz⟩⟩
 ·intro h;rw[le];exact⟨fun z=>h.1 z.1 z.2,fun z=>h.2 z.1 z.2⟩
theorem le_refl:∀x,le x x:=by apply ae.ind;intro g hl hr;rw[bO];exact⟨fun z hz h=>(bO.mp h).1 z hz (hl z hz),fun z hz h=>(bO.mp h).2 z hz (hr z hz)⟩
theorem le_trans{x y z:ae}(h:le x y)(k:le y z):le x z:=by
 have:∀n,∀x y z:ae,sizeOf x+sizeOf y+sizeOf z<n->le x y->le y z->le x z:=by
  intro n;induction n with
  |zero=>intro x y z hn;omega
  |succ n ih=>
   intro x y z hn h k;rw[bO];refine⟨fun w hw q=>?_,fun w hw q=>?_⟩
   ·have:=ft hw;exact(bO.mp h).1 w hw (ih y z w (by omega) k q)
   ·have:=dG hw;exact(bO.mp k).2 w hw (ih w x y (by omega) q h)
 exact this _ x y z (Nat.lt_succ_self _) h k
theorem eQ{x g:ae}(h:x∈g.left):¬le g x:=fun q=>(bO.mp q).1 x h (le_refl x)
theorem dN{x g:ae}(h:x∈g.right):¬le x g:=fun q=>(bO.mp q).2 x h (le_refl x)
def eqv(x y:ae):Prop:=le x y/\le y x
theorem ju(x:ae):eqv x x:=⟨le_refl x,le_refl x⟩
theorem eqv.symm{x y:ae}(h:eqv x y):eqv y x:=⟨h.2,h.1⟩
theorem eqv.trans{x y z:ae}(h:eqv x y)(k:eqv y z):eqv x z:=⟨le_trans h.1 k.1,le_trans k.2 h.2⟩
theorem eqv.le_left{x y z:ae}(h:eqv x y):le x z↔le y z:=⟨fun q=>le_trans h.2 q,fun q=>le_trans h.1 q⟩
theorem eqv.le_right{x y z:ae}(h:eqv x y):le z x↔le z y:=⟨fun q=>le_trans q h.1,fun q=>le_trans q h.2⟩
theorem CD{g h:ae}(a:∀y∈h.left,¬le g y)(b:∀x∈g.left,¬le h x) (c:∀y∈h.right,¬le y g) (d:∀x∈g.right,¬le x h):eqv g h:=⟨bO.mpr ⟨b,c⟩,bO.mpr ⟨a,d⟩⟩
theorem zx{l r l' r':List ae}(a:∀y∈l',∃x∈l,eqv x y)(b:∀x∈l,∃y∈l',eqv x y) (c:∀y∈r',∃x∈r,eqv x y) (d:∀x∈r,∃y∈r',eqv x y):eqv (.mk l r) (.mk l' r'):=by
 refine CD (fun y hy q=>?_) (fun x hx q=>?_) (fun y hy q=>?_) (fun x hx q=>?_)
 ·obtain⟨x,hx,e⟩:=a y hy;exact eQ (g:=.mk l r) hx (le_trans q e.2)
 ·obtain⟨y,hy,e⟩:=b x hx;exact eQ (g:=.mk l' r') hy (le_trans q e.1)
 ·obtain⟨x,hx,e⟩:=c y hy;exact dN (g:=.mk l r) hx (le_trans e.1 q)
 ·obtain⟨y,hy,e⟩:=d x hx;exact dN (g:=.mk l' r') hy (le_trans e.2 q)
inductive oW(g:ae)(l:List ae):ae->Prop where
 |under (x y:ae):y∈l->le x y->oW g l x
 |back (x w:ae):w∈x.right->le w g->(∀z∈w.left,oW g l z)->oW g l x
inductive pj(g:ae)(r:List ae):ae->Prop where
 |over (x y:ae):y∈r->le y x->pj g r x
 |back (x w:ae):w∈x.left->le g w->(∀z∈w.right,pj g r z)->pj g r x
theorem oW.ok{g:ae}{l r:List ae}(c:∀y∈r,¬le y g):∀{x:ae},oW g l x->¬le (.mk l r) x:=by
 intro x h;induction h with
 |under x y hy hxy=>exact fun q=>eQ (g:=.mk l r) hy (le_trans q hxy)
 |back x w hw hwg hz ih=>intro q;refine(bO.mp q).2 w hw ?_;rw[bO];exact⟨ih,fun y hy k=>c y hy (le_trans k hwg)⟩
theorem pj.ok{g:ae}{l r:List ae}(c:∀y∈l,¬le g y):∀{x:ae},pj g r x->¬le x (.mk l r):=by
 intro x h;induction h with
 |over x y hy hxy=>exact fun q=>dN (g:=.mk l r) hy (le_trans hxy q)
 |back x w hw hwg hz ih=>intro q;refine(bO.mp q).1 w hw ?_;rw[bO];exact⟨fun y hy k=>c y hy (le_trans hwg k),ih⟩
theorem xH{g:ae}{l r:List ae}(a:∀y∈l,¬le g y)(c:∀y∈r,¬le y g) (b:∀x∈g.left,oW g l x) (d:∀x∈g.right,pj g r x):eqv g (.mk l r):=CD a (fun x hx=>(b x hx).ok c) c (fun x hx=>(d x hx).ok a)
mutual
def born:ae->Nat
 |.mk l r=>max (bL 0 l) (bL 0 r)
def bL:Nat->List ae->Nat
 |m,[]=>m
 |m,x::l=>bL (max m (born x+1)) l
end
theorem yt:∀(l:List ae)(m:Nat),m<=bL m l
 |[],m=>by simp[bL]
 |x::l,m=>by rw[bL];exact Nat.le_trans (Nat.le_max_left _ _) (yt l _)
theorem pk:∀(l:List ae)(m:Nat)(x:ae),x∈l->born x<bL m l
 |[],_,_,h=>by cases h
 |y::l,m,x,h=>by
  rw[bL];rcases List.mem_cons.mp h with rfl|h
  ·have:=yt l (max m (born x+1));omega
  ·exact pk l _ x h
theorem l7{x g:ae}(h:x∈g.left):born x<born g:=by
 cases g with
 |mk l r=>rw[born];have:=pk l 0 x h;omega
theorem jZ{x g:ae}(h:x∈g.right):born x<born g:=by
 cases g with
 |mk l r=>rw[born];have:=pk r 0 x h;omega
mutual
def tJ:ae->ae->Ordering
 |.mk l r,h=>(compare (born (.mk l r)) (born h)).then ((dv l h.left).then (dv r h.right))
def dv:List ae->List ae->Ordering
 |[],[]=>.eq
 |[],_::_=>.lt
 |_::_,[]=>.gt
 |x::l,y::m=>(tJ x y).then (dv l m)
end
theorem jJ(g h:ae):tJ g h=(compare (born g) (born h)).then ((dv g.left h.left).then (dv g.right h.right)):=by cases g;rw[tJ];rfl
theorem jR{a b:Ordering}:a.then b=.eq↔a=.eq/\b=.eq:=by cases a<;>simp[Ordering.then]
theorem cZ{a b:Ordering}:a.then b=.lt↔a=.lt\/(a=.eq/\b=.lt):=by cases a<;>simp[Ordering.then]
theorem p8{a b:Ordering}:(a.then b).swap=a.swap.then b.swap:=by cases a<;>cases b<;>rfl
theorem lX{l:List ae}(ih:∀x∈l,∀y,tJ x y=.eq↔x=y):∀m,dv l m=.eq↔l=m:=by
 induction l with
 |nil=>intro m;cases m<;>simp[dv]
 |cons x l il=>
  intro m;cases m with
  |nil=>simp[dv]
  |cons y m=>rw[dv,jR,ih x (by simp) y,il (fun z hz=>ih z (by simp[hz])) m];simp
theorem iU:∀x y,tJ x y=.eq↔x=y:=by
 apply ae.ind (P:=fun x=>∀y,tJ x y=.eq↔x=y);intro g hl hr h;rw[jJ,jR,jR,lX hl,lX hr];constructor
 ·intro⟨_,a,b⟩;cases g;cases h;simp at a b;rw[a,b]
 ·intro e;subst e;simp
theorem rY(x:ae):tJ x x=.eq:=(iU x x).mpr rfl
theorem uL{l:List ae}(ih:∀x∈l,∀y,(tJ x y).swap=tJ y x):∀m,(dv l m).swap=dv m l:=by
 induction l with
 |nil=>intro m;cases m<;>simp[dv]
 |cons x l il=>
  intro m;cases m with
  |nil=>simp[dv]
  |cons y m=>rw[dv,dv,p8,ih x (by simp) y,il (fun z hz=>ih z (by simp[hz])) m]
theorem xG:∀x y,(tJ x y).swap=tJ y x:=by apply ae.ind (P:=fun x=>∀y,(tJ x y).swap=tJ y x);intro g hl hr h;rw[jJ,jJ h g,p8,p8,uL hl,uL hr,Nat.compare_swap]
def before(x y:ae):Prop:=tJ x y=.lt
instance(x y:ae):Decidable (before x y):=inferInstanceAs (Decidable (_=_))
theorem o3(x y:ae):before x y\/x=y\/before y x:=by
 unfold before;rw[<-xG x y];cases h:tJ x y
 ·exact .inl rfl
 ·exact .inr (.inl ((iU x y).mp h))
 ·exact .inr (.inr rfl)
theorem bE(x:ae):¬before x x:=by unfold before;rw[rY];intro h;cases h
theorem eZ{x y:ae}(h:before x y):¬before y x:=by unfold before at *;rw[<-xG x y,h];intro h;cases h
theorem tu{l:List ae}(ih:∀x∈l,∀y z,tJ x y=.lt->tJ y z=.lt->tJ x z=.lt):∀m n,dv l m=.lt->dv m n=.lt->dv l n=.lt:=by
 induction l with
 |nil=>intro m n h k;cases m<;>cases n<;>simp[dv]at *
 |cons x l il=>
  intro m n h k;cases m with
  |nil=>simp[dv]at h
  |cons y m=>
   cases n with
   |nil=>simp[dv]at k
   |cons z n=>
    rw[dv,cZ]at *;rcases h with h|⟨h,h'⟩
    ·rcases k with k|⟨k,k'⟩
     ·exact .inl (ih x (by simp) y z h k)
     ·rw[iU]at k;subst k;exact .inl h
    ·rw[iU]at h;subst h;rcases k with k|⟨k,k'⟩
     ·exact .inl k
     ·exact .inr ⟨k,il (fun z hz=>ih z (by simp[hz])) m n h' k'⟩
theorem jv:∀{x y z:ae},before x y->before y z->before x z:=by
 intro x;revert x;apply ae.ind (P:=fun x=>∀{y z:ae},before x y->before y z->before x z);intro g hl hr y z h k;unfold before at *;rw[jJ,cZ,cZ]at *;rw[Nat.compare_eq_lt,Nat.compare_eq_eq]at *;rcases h with h|⟨h,h'⟩
 ·rcases k with k|⟨k,k'⟩
  ·exact .inl (by omega)
  ·exact .inl (by omega)
 ·rcases k with k|⟨k,k'⟩
  ·exact .inl (by omega)
  ·refine .inr ⟨by omega,?_⟩;rcases h' with h'|⟨h',h''⟩
   ·rcases k' with k'|⟨k',k''⟩
    ·exact .inl (tu (fun x hx y z=>hl x hx) _ _ h' k')
    ·rw[lX (fun x _=>iU x)]at k';rw[<-k'];exact .inl h'
   ·rw[lX (fun x _=>iU x)]at h';rcases k' with k'|⟨k',k''⟩
    ·rw[h'];exact .inl k'
    ·rw[lX (fun x _=>iU x)]at k';refine .inr ⟨by rw[lX (fun x _=>iU x),h',k'],tu (fun x hx y z=>hr x hx) _ _ h'' k''⟩
theorem kE{x y:ae}(h:born x<born y):before x y:=by unfold before;rw[jJ,cZ,Nat.compare_eq_lt];exact .inl h
theorem kU:∀{l m:List ae},l.Pairwise before->m.Pairwise before->(∀x,x∈l↔x∈m)->l=m
 |[],m,_,_,e=>by
  cases m with
  |nil=>rfl
  |cons y m=>exact absurd ((e y).mpr (by simp)) (by simp)
 |x::l,[],_,_,e=>absurd ((e x).mp (by simp)) (by simp)
 |x::l,y::m,hl,hm,e=>by
  rw[List.pairwise_cons]at hl hm
  have hxy:x=y:=by
   rcases List.mem_cons.mp ((e x).mp (by simp))with h|h
   ·exact h
   ·rcases List.mem_cons.mp ((e y).mpr (by simp))with k|k
    ·exact k.symm
    ·exact absurd (hm.1 x h) (eZ (hl.1 y k))
  subst hxy
  have:l=m:=by
   refine kU hl.2 hm.2 (fun z=>⟨fun hz=>?_,fun hz=>?_⟩)
   ·rcases List.mem_cons.mp ((e z).mp (by simp[hz]))with h|h
    ·subst h;exact absurd (hl.1 z hz) (bE z)
    ·exact h
   ·rcases List.mem_cons.mp ((e z).mpr (by simp[hz]))with h|h
    ·subst h;exact absurd (hm.1 z hz) (bE z)
    ·exact h
  rw[this]
inductive bc:ae->Prop where
 |mk (g:ae):(∀x∈g.left,bc x)->(∀x∈g.right,bc x)->
  (∀x∈g.left,∀y∈g.left,le x y->x=y)->(∀x∈g.right,∀y∈g.right,le x y->x=y)->
  (∀x∈g.left,∀w∈x.right,¬le w g)->(∀x∈g.right,∀w∈x.left,¬le g w)->
  g.left.Pairwise before->g.right.Pairwise before->bc g
theorem bc.left{g x:ae}(h:bc g)(m:x∈g.left):bc x:=by cases h with|mk _ a=>exact a x m
theorem bc.right{g x:ae}(h:bc g)(m:x∈g.right):bc x:=by cases h with|mk _ _ a=>exact a x m
theorem bc.under{g h:ae}(lg:bc g)(e:eqv g h){x:ae}(hx:x∈g.left):∃y∈h.left,le x y:=by
 apply Classical.byContradiction;intro no;refine(bO.mp e.1).1 x hx ?_;rw[bO];refine⟨fun z hz q=>no ⟨z,hz,q⟩,fun w hw q=>?_⟩;cases lg with
 |mk _ _ _ _ _ c=>exact c x hx w hw (le_trans q e.2)
theorem bc.over{g h:ae}(lg:bc g)(e:eqv g h){x:ae}(hx:x∈g.right):∃y∈h.right,le y x:=by
 apply Classical.byContradiction;intro no;refine(bO.mp e.2).2 x hx ?_;rw[bO];refine⟨fun w hw q=>?_,fun z hz q=>no ⟨z,hz,q⟩⟩;cases lg with
 |mk _ _ _ _ _ _ c=>exact c x hx w hw (le_trans e.1 q)
theorem fc{g h:ae}(lg:bc g)(lh:bc h)(e:eqv g h):g=h:=by
 have:∀n,∀g h:ae,sizeOf g+sizeOf h<n->bc g->bc h->eqv g h->g=h:=by
  intro n;induction n with
  |zero=>intro g h hn;omega
  |succ n ih=>
   have sub:∀g h:ae,sizeOf g+sizeOf h<n+1->bc g->bc h->eqv g h->(∀x∈g.left,x∈h.left)/\(∀x∈g.right,x∈h.right):=by
    intro g h hn lg lh e;constructor
    ·intro x hx;obtain⟨y,hy,hxy⟩:=lg.under e hx;obtain⟨z,hz,hyz⟩:=lh.under e.symm hy;have hxz:x=z:=by cases lg with|mk _ _ _ b=>exact b x hx z hz (le_trans hxy hyz)
     subst hxz;have:=ft hx;have:=ft hy;rw[ih x y (by omega) (lg.left hx) (lh.left hy) ⟨hxy,hyz⟩];exact hy
    ·intro x hx;obtain⟨y,hy,hxy⟩:=lg.over e hx;obtain⟨z,hz,hyz⟩:=lh.over e.symm hy;have hxz:z=x:=by cases lg with|mk _ _ _ _ b=>exact b z hz x hx (le_trans hyz hxy)
     subst hxz;have:=dG hx;have:=dG hy;rw[ih z y (by omega) (lg.right hx) (lh.right hy) ⟨hyz,hxy⟩];exact hy
   intro g h hn lg lh e;obtain⟨a,b⟩:=sub g h hn lg lh e;obtain⟨a',b'⟩:=sub h g (by omega) lh lg e.symm;cases lg with
   |mk _ _ _ _ _ _ _ sl sr=>
    cases lh with
    |mk _ _ _ _ _ _ _ tl tr=>have e1:=kU sl tl (fun x=>⟨a x,a' x⟩);have e2:=kU sr tr (fun x=>⟨b x,b' x⟩);rw[<-nJ g,<-nJ h,e1,e2]
 exact this _ _ _ (Nat.lt_succ_self _) lg lh e
end Gth
namespace Gth
open Gw
def aM:ae:=.mk [] []
def val(gs:List ae)(i:Nat):ae:=gs.getD i aM
theorem nV{gs more:List ae}{i:Nat}(h:i<gs.length):val (gs++more) i=val gs i:=by unfold val;simp[List.getD_eq_getElem?_getD,List.getElem?_append_left h]
theorem sm{gs:List ae}{g:ae}:val (gs++[g]) gs.length=g:=by unfold val;simp[List.getD_eq_getElem?_getD]
theorem dD{gs more:List ae}{l:List Nat}(h:∀i∈l,i<gs.length):l.map (val (gs++more))=l.map (val gs):=List.map_congr_left fun i hi=>nV (h i hi)
structure Ok(s:Store)(gs:List ae):Prop where
 size:s.nodes.size=gs.length
 left:∀i,i<gs.length->∀j∈(s.node i).left,j<i
 right:∀i,i<gs.length->∀j∈(s.node i).right,j<i
 game:∀i,i<gs.length->val gs i=.mk ((s.node i).left.map (val gs)) ((s.node i).right.map (val gs))
 bornAt:∀i,i<gs.length->(s.node i).born=born (val gs i)
 least:∀i,i<gs.length->bc (val gs i)
 inj:∀i j,i<gs.length->j<gs.length->val gs i=val gs j->i=j
 msize:s.most.size=gs.length
 mrow:∀i,i<gs.length->(s.most.getD i #[]).size=gs.length
 most:∀i j,i<gs.length->j<gs.length->(s.atMost i j=true↔le (val gs i) (val gs j))
theorem eP{α:Type}(a:Array α)(x d:α)(i:Nat):(a.push x).getD i d=if i<a.size then a.getD i d else if i=a.size then x else d:=by
 simp only[Array.getD_eq_getD_getElem?,Array.getElem?_push];by_cases h:i=a.size
 ·subst h;simp
 ·rw[if_neg h];by_cases k:i<a.size
  ·simp[k]
  ·simp[k,h]
section
variable{s:Store}{gs:List ae}
theorem Ok.lefts(h:Ok s gs){i:Nat}(hi:i<gs.length):(val gs i).left=(s.node i).left.map (val gs):=by rw[h.game i hi];rfl
theorem Ok.rights(h:Ok s gs){i:Nat}(hi:i<gs.length):(val gs i).right=(s.node i).right.map (val gs):=by rw[h.game i hi];rfl
theorem Ok.anti(h:Ok s gs){i j:Nat}(hi:i<gs.length)(hj:j<gs.length)(a:le (val gs i) (val gs j))(b:le (val gs j) (val gs i)):i=j:=h.inj i j hi hj (fc (h.least i hi) (h.least j hj) ⟨a,b⟩)
structure iE(gs:List ae)(g:ae)(n:Nat)(b:Beside):Prop where
 asize:b.above.size=n
 bsize:b.below.size=n
 above:∀y,y<n->(b.above.getD y false=true↔le g (val gs y))
 below:∀y,y<n->(b.below.getD y false=true↔le (val gs y) g)
theorem ua(h:Ok s gs){l r:List Nat}(hl:∀i∈l,i<gs.length)(hr:∀i∈r,i<gs.length){n:Nat}(hn:n<gs.length){b:Beside} (hb:iE gs (.mk (l.map (val gs)) (r.map (val gs))) n b):iE gs (.mk (l.map (val gs)) (r.map (val gs))) (n+1) (besideStep s l r b n):=by
 have ha:((!l.any (fun z=>s.atMost n z)&&!(s.node n).right.any fun w=>b.below.getD w false)=true)↔le (.mk (l.map (val gs)) (r.map (val gs))) (val gs n):=by
  rw[bO,h.rights hn];simp only[Bool.and_eq_true,Bool.not_eq_true',List.any_eq_false,vy,List.mem_map,forall_exists_index,and_imp,forall_apply_eq_imp_iff₂];constructor
  ·rintro⟨p,q⟩;exact⟨fun z hz k=>p z hz ((h.most n z hn (hl z hz)).mpr k),fun w hw k=>q w hw ((hb.below w (h.right n hn w hw)).mpr k)⟩
  ·rintro⟨p,q⟩;exact⟨fun z hz k=>p z hz ((h.most n z hn (hl z hz)).mp k),fun w hw k=>q w hw ((hb.below w (h.right n hn w hw)).mp k)⟩
 have hb':((!r.any (fun z=>s.atMost z n)&&!(s.node n).left.any fun u=>b.above.getD u false)=true)↔le (val gs n) (.mk (l.map (val gs)) (r.map (val gs))):=by
  rw[bO,h.lefts hn];simp only[Bool.and_eq_true,Bool.not_eq_true',List.any_eq_false,rA,List.mem_map,forall_exists_index,and_imp,forall_apply_eq_imp_iff₂];constructor
  ·rintro⟨p,q⟩;exact⟨fun w hw k=>q w hw ((hb.above w (h.left n hn w hw)).mpr k),fun z hz k=>p z hz ((h.most z n (hr z hz) hn).mpr k)⟩
  ·rintro⟨p,q⟩;exact⟨fun z hz k=>q z hz ((h.most z n (hr z hz) hn).mp k),fun w hw k=>p w hw ((hb.above w (h.left n hn w hw)).mp k)⟩
 unfold besideStep;refine⟨by simp[hb.asize],by simp[hb.bsize],fun y hy=>?_,fun y hy=>?_⟩
 ·dsimp only;rw[eP,hb.asize];by_cases k:y<n
  ·rw[if_pos k];exact hb.above y k
  ·have:y=n:=by omega
   subst this;rw[if_neg k,if_pos rfl];exact ha
 ·dsimp only;rw[eP,hb.bsize];by_cases k:y<n
  ·rw[if_pos k];exact hb.below y k
  ·have:y=n:=by omega
   subst this;rw[if_neg k,if_pos rfl];exact hb'
theorem AK(h:Ok s gs){l r:List Nat}(hl:∀i∈l,i<gs.length)(hr:∀i∈r,i<gs.length):iE gs (.mk (l.map (val gs)) (r.map (val gs))) gs.length (beside s l r):=by
 unfold beside;rw[h.size]
 have:∀n,n<=gs.length->iE gs (.mk (l.map (val gs)) (r.map (val gs))) n ((List.range n).foldl (besideStep s l r) ⟨#[],#[]⟩):=by
  intro n;induction n with
  |zero=>intro _;exact⟨rfl,rfl,fun y hy=>by omega,fun y hy=>by omega⟩
  |succ n ih=>intro hn;rw[List.range_succ,List.foldl_append];exact ua h hl hr (by omega) (ih (by omega))
 exact this _ (Nat.le_refl _)
theorem oz:∀(l a:List Nat),a.Nodup->(l.foldl (fun(a:List Nat)(x:Nat)=>if a.contains x=true then a else a++[x]) a).Nodup/\∀x,x∈l.foldl (fun(a:List Nat)(x:Nat)=>if a.contains x=true then a else a++[x]) a↔x∈a\/x∈l
 |[],a,h=>by simp[h]
 |y::l,a,h=>by
  rw[List.foldl_cons];by_cases k:a.contains y=true
  ·rw[if_pos k];obtain⟨p,q⟩:=oz l a h;refine⟨p,fun x=>?_⟩;rw[q,List.mem_cons];rw[List.contains_iff_mem]at k;constructor
   ·rintro(c|c)<;>simp[c]
   ·rintro(c|c|c)
    ·exact .inl c
    ·subst c;exact .inl k
    ·exact .inr c
  ·rw[if_neg k];rw[List.contains_iff_mem]at k;obtain⟨p,q⟩:=oz l (a++[y]) (by rw[List.nodup_append];refine⟨h,by simp,?_⟩;intro u hu v hv e;simp at hv;subst hv;subst e;exact k hu);refine⟨p,fun x=>?_⟩;rw[q];simp[or_assoc]
theorem jL(l:List Nat):(once l).Nodup:=(oz l [] (by simp)).1
theorem d4{l:List Nat}{x:Nat}:x∈once l↔x∈l:=by have:=(oz l [] (by simp)).2 x;simpa[once]using this
structure HU(s:Store)(gs:List ae)(g:ae)(l k:List Nat):Prop where
 lt:∀x∈k,x<gs.length
 not:∀x∈k,∀w∈(s.node x).right,¬le (val gs w) g
 legit:∀x∈k,¬le g (val gs x)
 nodup:k.Nodup
 hand:∀L:List ae,(∀y∈k,oW g L (val gs y))->∀x∈l,oW g L (val gs x)
structure HS(s:Store)(gs:List ae)(g:ae)(l k:List Nat):Prop where
 lt:∀x∈k,x<gs.length
 not:∀x∈k,∀w∈(s.node x).left,¬le g (val gs w)
 legit:∀x∈k,¬le (val gs x) g
 nodup:k.Nodup
 hand:∀L:List ae,(∀y∈k,pj g L (val gs y))->∀x∈l,pj g L (val gs x)
theorem m_(h:Ok s gs){g:ae}{b:Beside}(hb:iE gs g gs.length b):∀(f:Nat)(l:List Nat),l.Nodup->(∀x∈l,x<gs.length)->(∀x∈l,¬le g (val gs x))->(∀x∈l,(∃w∈(s.node x).right,le (val gs w) g)->x<f)->HU s gs g l (onwardLeft s b f l)
 |0,l,hn,hl,hg,hf=>⟨hl,fun x hx w hw q=>absurd (hf x hx ⟨w,hw,q⟩) (by omega),hg,hn,fun L hL x hx=>hL x hx⟩
 |f+1,l,hn,hl,hg,hf=>by
  unfold onwardLeft;dsimp only
  have mem:∀x,x∈once (l.flatMap fun(x:Nat)=>match (s.node x).right.find? fun(w:Nat)=>b.below.getD w false with
   |some w=>(s.node w).left
   |none=>[x])↔(x∈l/\∀w∈(s.node x).right,¬le (val gs w) g)\/(∃y∈l,∃w∈(s.node y).right,le (val gs w) g/\x∈(s.node w).left/\(s.node y).right.find? (fun(w:Nat)=>b.below.getD w false)=some w):=by
   intro x;rw[d4,List.mem_flatMap];constructor
   ·rintro⟨y,hy,hx⟩;cases e:(s.node y).right.find? fun(w:Nat)=>b.below.getD w false with
    |none=>rw[e]at hx;simp at hx;subst hx;refine .inl ⟨hy,fun w hw q=>?_⟩;have:=List.find?_eq_none.mp e w hw;exact this ((hb.below w (by have:=h.right x (hl x hy) w hw;have:=hl x hy;omega)).mpr q)
    |some w=>rw[e]at hx;have hw:=List.mem_of_find?_eq_some e;have:=List.find?_some e;exact .inr ⟨y,hy,w,hw,(hb.below w (by have:=h.right y (hl y hy) w hw;have:=hl y hy;omega)).mp this,hx,e⟩
   ·rintro(⟨hx,q⟩|⟨y,hy,w,hw,q,hx,e⟩)
    ·refine⟨x,hx,?_⟩;have e:(s.node x).right.find? (fun(w:Nat)=>b.below.getD w false)=none:=by rw[List.find?_eq_none];intro w hw k;exact q w hw ((hb.below w (by have:=h.right x (hl x hx) w hw;have:=hl x hx;omega)).mp k)
     rw[e];simp
    ·refine⟨y,hy,?_⟩;rw[e];exact hx
  generalize hk:once (l.flatMap fun(x:Nat)=>match (s.node x).right.find? fun(w:Nat)=>b.below.getD w false with
   |some w=>(s.node w).left
   |none=>[x])=k at mem
  have kn:k.Nodup:=by rw[<-hk];exact jL _
  by_cases kl:(k==l)=true
  ·rw[if_pos kl];have kl:k=l:=by simpa using kl
   subst kl;refine⟨hl,?_,hg,hn,fun L hL x hx=>hL x hx⟩
   have:∀d,∀x∈k,(∃w∈(s.node x).right,le (val gs w) g)->f+1<=x+d->False:=by
    intro d;induction d with
    |zero=>intro x hx q e;have:=hf x hx q;omega
    |succ d ih=>
     intro x hx q e;rcases(mem x).mp hx with⟨_,no⟩|⟨y,hy,w,hw,qw,hxw,_⟩
     ·obtain⟨w,hw,q⟩:=q;exact no w hw q
     ·have h1:=h.right y (hl y hy) w hw;have h2:=h.left w (by have:=hl y hy;omega) x hxw;exact ih y hy ⟨w,hw,qw⟩ (by omega)
   intro x hx w hw q;exact this (f+1) x hx ⟨w,hw,q⟩ (by omega)
  ·rw[if_neg kl]
   have klt:∀x∈k,x<gs.length:=by
    intro x hx;rcases(mem x).mp hx with⟨hx,_⟩|⟨y,hy,w,hw,qw,hxw,_⟩
    ·exact hl x hx
    ·have h1:=h.right y (hl y hy) w hw;have h2:=hl y hy;have h3:=h.left w (by omega) x hxw;omega
   have r:=m_ h hb f k kn klt (by
    intro x hx;rcases(mem x).mp hx with⟨hx,_⟩|⟨y,hy,w,hw,qw,hxw,_⟩
    ·exact hg x hx
    ·intro q;have h1:=h.right y (hl y hy) w hw;have h2:=hl y hy;exact eQ (g:=val gs w) (x:=val gs x) (by rw[h.lefts (by omega)];exact List.mem_map_of_mem hxw) (le_trans qw q)) (by
    intro x hx q;rcases(mem x).mp hx with⟨_,no⟩|⟨y,hy,w,hw,qw,hxw,_⟩
    ·obtain⟨w,hw,q⟩:=q;exact absurd q (no w hw)
    ·have h1:=h.right y (hl y hy) w hw;have h2:=hl y hy;have h3:=h.left w (by omega) x hxw;have h4:=hf y hy ⟨w,hw,qw⟩;omega)
   refine⟨r.lt,r.not,r.legit,r.nodup,fun L hL x hx=>?_⟩;have hk:=r.hand L hL;by_cases q:∃w∈(s.node x).right,le (val gs w) g
   ·cases e:(s.node x).right.find? fun(w:Nat)=>b.below.getD w false with
    |none=>obtain⟨w,hw,q⟩:=q;exact absurd ((hb.below w (by have:=h.right x (hl x hx) w hw;have:=hl x hx;omega)).mpr q) (List.find?_eq_none.mp e w hw)
    |some w=>
     have hw:=List.mem_of_find?_eq_some e;have hlt:w<gs.length:=by have:=h.right x (hl x hx) w hw;have:=hl x hx;omega
     have e2:=List.find?_some e;have qw:=(hb.below w hlt).mp e2;refine .back _ (val gs w) (by rw[h.rights (hl x hx)];exact List.mem_map_of_mem hw) qw ?_;intro z hz;rw[h.lefts hlt,List.mem_map]at hz;obtain⟨u,hu,rfl⟩:=hz;exact hk u ((mem u).mpr (.inr ⟨x,hx,w,hw,qw,hu,e⟩))
   ·exact hk x ((mem x).mpr (.inl ⟨hx,fun w hw k=>q ⟨w,hw,k⟩⟩))
theorem kj(h:Ok s gs){g:ae}{b:Beside}(hb:iE gs g gs.length b):∀(f:Nat)(l:List Nat),l.Nodup->(∀x∈l,x<gs.length)->(∀x∈l,¬le (val gs x) g)->(∀x∈l,(∃w∈(s.node x).left,le g (val gs w))->x<f)->HS s gs g l (onwardRight s b f l)
 |0,l,hn,hl,hg,hf=>⟨hl,fun x hx w hw q=>absurd (hf x hx ⟨w,hw,q⟩) (by omega),hg,hn,fun L hL x hx=>hL x hx⟩
 |f+1,l,hn,hl,hg,hf=>by
  unfold onwardRight;dsimp only
  have mem:∀x,x∈once (l.flatMap fun(x:Nat)=>match (s.node x).left.find? fun(w:Nat)=>b.above.getD w false with
   |some w=>(s.node w).right
   |none=>[x])↔(x∈l/\∀w∈(s.node x).left,¬le g (val gs w))\/(∃y∈l,∃w∈(s.node y).left,le g (val gs w)/\x∈(s.node w).right/\(s.node y).left.find? (fun(w:Nat)=>b.above.getD w false)=some w):=by
   intro x;rw[d4,List.mem_flatMap];constructor
   ·rintro⟨y,hy,hx⟩;cases e:(s.node y).left.find? fun(w:Nat)=>b.above.getD w false with
    |none=>rw[e]at hx;simp at hx;subst hx;refine .inl ⟨hy,fun w hw q=>?_⟩;have:=List.find?_eq_none.mp e w hw;exact this ((hb.above w (by have:=h.left x (hl x hy) w hw;have:=hl x hy;omega)).mpr q)
    |some w=>rw[e]at hx;have hw:=List.mem_of_find?_eq_some e;have:=List.find?_some e;exact .inr ⟨y,hy,w,hw,(hb.above w (by have:=h.left y (hl y hy) w hw;have:=hl y hy;omega)).mp this,hx,e⟩
   ·rintro(⟨hx,q⟩|⟨y,hy,w,hw,q,hx,e⟩)
    ·refine⟨x,hx,?_⟩;have e:(s.node x).left.find? (fun(w:Nat)=>b.above.getD w false)=none:=by rw[List.find?_eq_none];intro w hw k;exact q w hw ((hb.above w (by have:=h.left x (hl x hx) w hw;have:=hl x hx;omega)).mp k)
     rw[e];simp
    ·refine⟨y,hy,?_⟩;rw[e];exact hx
  generalize hk:once (l.flatMap fun(x:Nat)=>match (s.node x).left.find? fun(w:Nat)=>b.above.getD w false with
   |some w=>(s.node w).right
   |none=>[x])=k at mem
  have kn:k.Nodup:=by rw[<-hk];exact jL _
  by_cases kl:(k==l)=true
  ·rw[if_pos kl];have kl:k=l:=by simpa using kl
   subst kl;refine⟨hl,?_,hg,hn,fun L hL x hx=>hL x hx⟩
   have:∀d,∀x∈k,(∃w∈(s.node x).left,le g (val gs w))->f+1<=x+d->False:=by
    intro d;induction d with
    |zero=>intro x hx q e;have:=hf x hx q;omega
    |succ d ih=>
     intro x hx q e;rcases(mem x).mp hx with⟨_,no⟩|⟨y,hy,w,hw,qw,hxw,_⟩
     ·obtain⟨w,hw,q⟩:=q;exact no w hw q
     ·have h1:=h.left y (hl y hy) w hw;have h2:=h.right w (by have:=hl y hy;omega) x hxw;exact ih y hy ⟨w,hw,qw⟩ (by omega)
   intro x hx w hw q;exact this (f+1) x hx ⟨w,hw,q⟩ (by omega)
  ·rw[if_neg kl]
   have klt:∀x∈k,x<gs.length:=by
    intro x hx;rcases(mem x).mp hx with⟨hx,_⟩|⟨y,hy,w,hw,qw,hxw,_⟩
    ·exact hl x hx
    ·have h1:=h.left y (hl y hy) w hw;have h2:=hl y hy;have h3:=h.right w (by omega) x hxw;omega
   have r:=kj h hb f k kn klt (by
    intro x hx;rcases(mem x).mp hx with⟨hx,_⟩|⟨y,hy,w,hw,qw,hxw,_⟩
    ·exact hg x hx
    ·intro q;have h1:=h.left y (hl y hy) w hw;have h2:=hl y hy;exact dN (g:=val gs w) (x:=val gs x) (by rw[h.rights (by omega)];exact List.mem_map_of_mem hxw) (le_trans q qw)) (by
    intro x hx q;rcases(mem x).mp hx with⟨_,no⟩|⟨y,hy,w,hw,qw,hxw,_⟩
    ·obtain⟨w,hw,q⟩:=q;exact absurd q (no w hw)
    ·have h1:=h.left y (hl y hy) w hw;have h2:=hl y hy;have h3:=h.right w (by omega) x hxw;have h4:=hf y hy ⟨w,hw,qw⟩;omega)
   refine⟨r.lt,r.not,r.legit,r.nodup,fun L hL x hx=>?_⟩;have hk:=r.hand L hL;by_cases q:∃w∈(s.node x).left,le g (val gs w)
   ·cases e:(s.node x).left.find? fun(w:Nat)=>b.above.getD w false with
    |none=>obtain⟨w,hw,q⟩:=q;exact absurd ((hb.above w (by have:=h.left x (hl x hx) w hw;have:=hl x hx;omega)).mpr q) (List.find?_eq_none.mp e w hw)
    |some w=>
     have hw:=List.mem_of_find?_eq_some e;have hlt:w<gs.length:=by have:=h.left x (hl x hx) w hw;have:=hl x hx;omega
     have e2:=List.find?_some e;have qw:=(hb.above w hlt).mp e2;refine .back _ (val gs w) (by rw[h.lefts (hl x hx)];exact List.mem_map_of_mem hw) qw ?_;intro z hz;rw[h.rights hlt,List.mem_map]at hz;obtain⟨u,hu,rfl⟩:=hz;exact hk u ((mem u).mpr (.inr ⟨x,hx,w,hw,qw,hu,e⟩))
   ·exact hk x ((mem x).mpr (.inl ⟨hx,fun w hw k=>q ⟨w,hw,k⟩⟩))
def qh:Ordering->Nat
 |.lt=>0
 |.eq=>1
 |.gt=>2
theorem jx(h:Ok s gs){bf:Nat->Nat->Bool}:∀(l m:List Nat),(∀x∈l,x<gs.length)->(∀x∈m,x<gs.length)->(∀x∈l,∀y∈m,(bf x y=true↔before (val gs x) (val gs y)))->rowsOrder bf l m=qh (dv (l.map (val gs)) (m.map (val gs)))
 |[],[],_,_,_=>by simp[rowsOrder,dv,qh]
 |[],_::_,_,_,_=>by simp[rowsOrder,dv,qh]
 |_::_,[],_,_,_=>by simp[rowsOrder,dv,qh]
 |x::l,y::m,hl,hm,hb=>by
  rw[rowsOrder,List.map_cons,List.map_cons,dv];by_cases e:x=y
  ·subst e;rw[if_pos rfl,rY,jx h l m (fun z hz=>hl z (by simp[hz])) (fun z hz=>hm z (by simp[hz])) (fun u hu v hv=>hb u (by simp[hu]) v (by simp[hv]))];rfl
  ·rw[if_neg e];have ne:val gs x≠val gs y:=fun q=>e (h.inj x y (hl x (by simp)) (hm y (by simp)) q);have hb':=hb x (by simp) y (by simp);by_cases k:bf x y=true
   ·rw[if_pos k];have:=hb'.mp k;unfold before at this;rw[this];rfl
   ·rw[if_neg k]
    have:tJ (val gs x) (val gs y)=.gt:=by
     cases e:tJ (val gs x) (val gs y)with
     |lt=>exact absurd (hb'.mpr e) k
     |eq=>exact absurd ((iU _ _).mp e) ne
     |gt=>rfl
    rw[this];rfl
theorem zk{o:Ordering}:qh o=0↔o=.lt:=by cases o<;>simp[qh]
theorem Bc{o:Ordering}:qh o=1↔o=.eq:=by cases o<;>simp[qh]
theorem lN(h:Ok s gs):∀(f x y:Nat),x<f->y<f->x<gs.length->y<gs.length->(beforeIn s f x y=true↔before (val gs x) (val gs y))
 |0,_,_,hx,_,_,_=>by omega
 |f+1,x,y,hx,hy,hxl,hyl=>by rw[beforeIn];dsimp only;have q1:=h.left x hxl;have q2:=h.left y hyl;have q3:=h.right x hxl;have q4:=h.right y hyl;rw[jx h _ _ (fun z hz=>by have:=q1 z hz;omega) (fun z hz=>by have:=q2 z hz;omega) (fun u hu v hv=>by have:=q1 u hu;have:=q2 v hv;exact lN h f u v (by omega) (by omega) (by omega) (by omega)),jx h _ _ (fun z hz=>by have:=q3 z hz;omega) (fun z hz=>by have:=q4 z hz;omega) (fun u hu v hv=>by have:=q3 u hu;have:=q4 v hv;exact lN h f u v (by omega) (by omega) (by omega) (by omega)),<-h.lefts hxl,<-h.lefts hyl,<-h.rights hxl,<-h.rights hyl,h.bornAt x hxl,h.bornAt y hyl];unfold before;rw[jJ,cZ,cZ,Nat.compare_eq_lt,Nat.compare_eq_eq];simp only[Bool.or_eq_true,decide_eq_true_eq,Bool.and_eq_true,beq_iff_eq,zk,Bc]
theorem uK(h:Ok s gs){x y:Nat}(hx:x<gs.length)(hy:y<gs.length):(s.before x y=true↔before (val gs x) (val gs y)):=lN h _ x y (by rw[h.size];omega) (by rw[h.size];omega) hx hy
theorem Du(h:Ok s gs){x:Nat}(hx:x<gs.length):∀(l:List Nat),(∀y∈l,y<gs.length)->x∉l->l.Pairwise (fun u v=>before (val gs u) (val gs v))->(put s x l).Pairwise (fun u v=>before (val gs u) (val gs v))/\∀z,z∈put s x l↔z=x\/z∈l
 |[],_,_,_=>by simp[put]
 |y::l,hl,hn,hp=>by
  rw[put];have hy:=hl y (by simp);rw[List.pairwise_cons]at hp;by_cases k:s.before x y=true
  ·rw[if_pos k];have k':=(uK h hx hy).mp k;refine⟨?_,fun z=>by simp⟩;rw[List.pairwise_cons];refine⟨fun z hz=>?_,List.pairwise_cons.mpr hp⟩;rcases List.mem_cons.mp hz with rfl|hz
   ·exact k'
   ·exact jv k' (hp.1 z hz)
  ·rw[if_neg k];obtain⟨a,b⟩:=Du h hx l (fun z hz=>hl z (by simp[hz])) (fun q=>hn (by simp[q])) hp.2
   have k':before (val gs y) (val gs x):=by
    rcases o3 (val gs x) (val gs y)with q|q|q
    ·exact absurd ((uK h hx hy).mpr q) k
    ·exact absurd (h.inj x y hx hy q) (fun e=>hn (by simp[e]))
    ·exact q
   refine⟨?_,fun z=>?_⟩
   ·rw[List.pairwise_cons];refine⟨fun z hz=>?_,a⟩;rcases(b z).mp hz with rfl|hz
    ·exact k'
    ·exact hp.1 z hz
   ·rw[List.mem_cons,b,List.mem_cons];constructor
    ·rintro(e|e|e)<;>simp[e]
    ·rintro(e|e|e)<;>simp[e]
theorem tm(h:Ok s gs):∀(l a:List Nat),(∀y∈l,y<gs.length)->(∀y∈a,y<gs.length)->l.Nodup->(∀y∈l,y∉a)->a.Pairwise (fun u v=>before (val gs u) (val gs v))->(l.foldl (fun(r:List Nat)(x:Nat)=>put s x r) a).Pairwise (fun u v=>before (val gs u) (val gs v))/\∀z,z∈l.foldl (fun(r:List Nat)(x:Nat)=>put s x r) a↔z∈a\/z∈l
 |[],a,_,_,_,_,hp=>by simp[hp]
 |x::l,a,hl,ha,hn,hd,hp=>by
  rw[List.foldl_cons];rw[List.nodup_cons]at hn;have hx:=hl x (by simp);obtain⟨p,q⟩:=Du h hx a ha (hd x (by simp)) hp
  obtain⟨u,v⟩:=tm h l (put s x a) (fun y hy=>hl y (by simp[hy])) (fun y hy=>by
   rcases(q y).mp hy with rfl|hy
   ·exact hx
   ·exact ha y hy) hn.2 (fun y hy k=>by
   rcases(q y).mp k with rfl|k
   ·exact hn.1 hy
   ·exact hd y (by simp[hy]) k) p
  refine⟨u,fun z=>?_⟩;rw[v,q,List.mem_cons];constructor
  ·rintro((e|e)|e)<;>simp[e]
  ·rintro(e|e|e)<;>simp[e]
theorem uu(h:Ok s gs){l:List Nat}(hl:∀y∈l,y<gs.length)(hn:l.Nodup):(sorted s l).Pairwise (fun u v=>before (val gs u) (val gs v))/\∀z,z∈sorted s l↔z∈l:=by obtain⟨a,b⟩:=tm h l [] hl (by simp) hn (by simp) (by simp);exact⟨a,fun z=>by rw[sorted,b];simp⟩
theorem sL(h:Ok s gs):∀(l:List Nat)(m:Nat),(∀y∈l,y<gs.length)->l.foldl (fun(m x:Nat)=>max m ((s.node x).born+1)) m=bL m (l.map (val gs))
 |[],m,_=>by simp[bL]
 |x::l,m,hl=>by rw[List.foldl_cons,List.map_cons,bL,sL h l _ (fun y hy=>hl y (by simp[hy])),h.bornAt x (hl x (by simp))]
theorem ui(h:Ok s gs){l:List Nat}(hl:∀y∈l,y<gs.length):bornOf s l=bL 0 (l.map (val gs)):=sL h l 0 hl
theorem vD{α:Type}{lt:α->α->Prop}(P:α->Prop)(irr:∀x,¬lt x x)(tr:∀x y z,P x->P y->P z->lt x y->lt y z->lt x z):∀(k:List α),(∀x∈k,P x)->∀x,P x->∃y,(y=x\/(y∈k/\lt x y))/\∀z∈k,¬lt y z
 |[],_,x,_=>⟨x,.inl rfl,by simp⟩
 |a::k,hk,x,hx=>by
  have ha:=hk a (by simp);obtain⟨y,hy,hm⟩:=vD P irr tr k (fun z hz=>hk z (by simp[hz])) x hx
  have py:P y:=by
   rcases hy with rfl|⟨q,_⟩
   ·exact hx
   ·exact hk y (by simp[q])
  by_cases c:lt y a
  ·refine⟨a,.inr ⟨by simp,?_⟩,?_⟩
   ·rcases hy with rfl|⟨_,q⟩
    ·exact c
    ·exact tr _ _ _ hx py ha q c
   ·intro z hz q;rcases List.mem_cons.mp hz with rfl|hz
    ·exact irr _ q
    ·exact hm z hz (tr _ _ _ py ha (hk z (by simp[hz])) c q)
  ·refine⟨y,?_,?_⟩
   ·rcases hy with rfl|⟨p,q⟩
    ·exact .inl rfl
    ·exact .inr ⟨by simp[p],q⟩
   ·intro z hz q;rcases List.mem_cons.mp hz with rfl|hz
    ·exact c q
    ·exact hm z hz q
theorem Bg(h:Ok s gs){k:List Nat}(hk:∀y∈k,y<gs.length){x:Nat}(hx:x∈k):∃y∈k.filter (fun(x:Nat)=>!k.any fun(y:Nat)=>y !=x&&s.atMost x y),le (val gs x) (val gs y):=by
 obtain⟨y,hy,hm⟩:=vD (lt:=fun a b=>b≠a/\le (val gs a) (val gs b)) (fun a=>a<gs.length) (fun x q=>q.1 rfl) (fun a b c pa pb pc p q=>⟨fun e=>by subst e;exact p.1 (h.anti pb pa q.2 p.2),le_trans p.2 q.2⟩) k hk x (hk x hx)
 have yk:y∈k:=by
  rcases hy with rfl|⟨q,_⟩
  ·exact hx
  ·exact q
 refine⟨y,?_,?_⟩
 ·rw[List.mem_filter];refine⟨yk,?_⟩;simp only[Bool.not_eq_true',List.any_eq_false,Bool.and_eq_true,bne_iff_ne];rintro z hz ⟨ne,q⟩;exact hm z hz ⟨ne,(h.most y z (hk y yk) (hk z hz)).mp q⟩
 ·rcases hy with rfl|⟨_,_,q⟩
  ·exact le_refl _
  ·exact q
theorem Be(h:Ok s gs){k:List Nat}(hk:∀y∈k,y<gs.length){x:Nat}(hx:x∈k):∃y∈k.filter (fun(x:Nat)=>!k.any fun(y:Nat)=>y !=x&&s.atMost y x),le (val gs y) (val gs x):=by
 obtain⟨y,hy,hm⟩:=vD (lt:=fun a b=>b≠a/\le (val gs b) (val gs a)) (fun a=>a<gs.length) (fun x q=>q.1 rfl) (fun a b c pa pb pc p q=>⟨fun e=>by subst e;exact p.1 (h.anti pb pa p.2 q.2),le_trans q.2 p.2⟩) k hk x (hk x hx)
 have yk:y∈k:=by
  rcases hy with rfl|⟨q,_⟩
  ·exact hx
  ·exact q
 refine⟨y,?_,?_⟩
 ·rw[List.mem_filter];refine⟨yk,?_⟩;simp only[Bool.not_eq_true',List.any_eq_false,Bool.and_eq_true,bne_iff_ne];rintro z hz ⟨ne,q⟩;exact hm z hz ⟨ne,(h.most z y (hk z hz) (hk y yk)).mp q⟩
 ·rcases hy with rfl|⟨_,_,q⟩
  ·exact le_refl _
  ·exact q
def k9(s:Store)(b:Beside)(left right:List Nat):Store:=⟨s.nodes.push ⟨left,right,max (bornOf s left) (bornOf s right)⟩,(s.most.zipIdx.map fun(x:Array Bool×Nat)=>x.1.push (b.below.getD x.2 false)).push (b.above.push true)⟩
theorem fR(h:Ok s gs){b:Beside}{left right:List Nat}{i:Nat}(hi:i<gs.length):(k9 s b left right).node i=s.node i:=by unfold Store.node k9;rw[eP,h.size,if_pos hi]
theorem d8(h:Ok s gs){b:Beside}{left right:List Nat}:(k9 s b left right).node gs.length=⟨left,right,max (bornOf s left) (bornOf s right)⟩:=by unfold Store.node k9;rw[eP,h.size,if_neg (Nat.lt_irrefl _),if_pos rfl]
theorem oN(h:Ok s gs){b:Beside}{left right:List Nat}{i:Nat}(hi:i<gs.length):(k9 s b left right).most.getD i #[]=(s.most.getD i #[]).push (b.below.getD i false):=by unfold k9;dsimp only;rw[eP];have hs:=h.msize;rw[if_pos (by simp[hs,hi])];simp[Array.getD_eq_getD_getElem?,Array.getElem?_eq_getElem (show i<s.most.size by omega)]
theorem lK(h:Ok s gs){b:Beside}{left right:List Nat}:(k9 s b left right).most.getD gs.length #[]=b.above.push true:=by unfold k9;dsimp only;rw[eP];have hs:=h.msize;rw[if_neg (by simp[hs]),if_pos (by simp[hs])]
theorem CS(h:Ok s gs){b:Beside}{g:ae}(hb:iE gs g gs.length b){left right:List Nat} (hl:∀x∈left,x<gs.length) (hr:∀x∈right,x<gs.length) (hle:bc (.mk (left.map (val gs)) (right.map (val gs)))) (he:eqv g (.mk (left.map (val gs)) (right.map (val gs)))) (hno:∀y,y<gs.length->¬(le g (val gs y)/\le (val gs y) g)) :Ok (k9 s b left right) (gs++[.mk (left.map (val gs)) (right.map (val gs))]):=by
 have hlen:(gs++[ae.mk (left.map (val gs)) (right.map (val gs))]).length=gs.length+1:=by simp
 generalize hg':ae.mk (left.map (val gs)) (right.map (val gs))=g' at *;have vlt:∀{i},i<gs.length->val (gs++[g']) i=val gs i:=fun hi=>nV hi;have vl:val (gs++[g']) gs.length=g':=sm;have cas:∀{i},i<(gs++[g']).length->i<gs.length\/i=gs.length:=by intro i hi;omega
 constructor
 ·rw[hlen];unfold k9;simp[h.size]
 ·intro i hi j hj;rcases cas hi with c|rfl
  ·rw[fR h c]at hj;exact h.left i c j hj
  ·rw[d8 h]at hj;exact hl j hj
 ·intro i hi j hj;rcases cas hi with c|rfl
  ·rw[fR h c]at hj;exact h.right i c j hj
  ·rw[d8 h]at hj;exact hr j hj
 ·intro i hi;rcases cas hi with c|rfl
  ·rw[fR h c,vlt c,dD (fun j hj=>Nat.lt_trans (h.left i c j hj) c),dD (fun j hj=>Nat.lt_trans (h.right i c j hj) c)];exact h.game i c
  ·rw[d8 h,vl,dD hl,dD hr];exact hg'.symm
 ·intro i hi;rcases cas hi with c|rfl
  ·rw[fR h c,vlt c];exact h.bornAt i c
  ·rw[d8 h,vl,<-hg',born,ui h hl,ui h hr]
 ·intro i hi;rcases cas hi with c|rfl
  ·rw[vlt c];exact h.least i c
  ·rw[vl];exact hle
 ·intro i j hi hj e;rcases cas hi with c|rfl
  ·rcases cas hj with d|rfl
   ·rw[vlt c,vlt d]at e;exact h.inj i j c d e
   ·rw[vlt c,vl]at e;rw[<-e]at he;exact absurd he (hno i c)
  ·rcases cas hj with d|rfl
   ·rw[vlt d,vl]at e;rw[e]at he;exact absurd he (hno j d)
   ·rfl
 ·rw[hlen];unfold k9;simp[h.msize]
 ·intro i hi;rw[hlen];rcases cas hi with c|rfl
  ·rw[oN h c,Array.size_push,h.mrow i c]
  ·rw[lK h];simp[hb.asize]
 ·intro i j hi hj;unfold Store.atMost;rcases cas hi with c|rfl
  ·rw[oN h c,eP,h.mrow i c,vlt c];rcases cas hj with d|rfl
   ·rw[if_pos d,vlt d];exact h.most i j c d
   ·rw[if_neg (Nat.lt_irrefl _),if_pos rfl,vl,hb.below i c];exact he.le_right
  ·rw[lK h,eP,hb.asize,vl];rcases cas hj with d|rfl
   ·rw[if_pos d,vlt d,hb.above j d];exact he.le_left
   ·rw[if_neg (Nat.lt_irrefl _),if_pos rfl,vl];exact⟨fun _=>le_refl _,fun _=>rfl⟩
theorem AE(h:Ok s gs){l r:List Nat}(hl:∀i∈l,i<gs.length)(hr:∀i∈r,i<gs.length):∃g,bc g/\eqv g (.mk (l.map (val gs)) (r.map (val gs)))/\(((form s l r).1=s/\(form s l r).2<gs.length/\val gs (form s l r).2=g)\/(Ok (form s l r).1 (gs++[g])/\(form s l r).2=gs.length)):=by
 have hb:=AK h hl hr;unfold form;dsimp only;cases e:(List.range s.nodes.size).find? fun(y:Nat)=>(beside s l r).above.getD y false&&(beside s l r).below.getD y false with
 |some y=>dsimp only;have hy:=List.mem_of_find?_eq_some e;rw[List.mem_range,h.size]at hy;have e2:=List.find?_some e;rw[Bool.and_eq_true]at e2;exact⟨val gs y,h.least y hy,⟨(hb.below y hy).mp e2.2,(hb.above y hy).mp e2.1⟩,.inl ⟨rfl,hy,rfl⟩⟩
 |none=>
  dsimp only;have hno:∀y,y<gs.length->¬(le (.mk (l.map (val gs)) (r.map (val gs))) (val gs y)/\le (val gs y) (.mk (l.map (val gs)) (r.map (val gs)))):=by intro y hy q;have:=List.find?_eq_none.mp e y (by rw[List.mem_range,h.size];exact hy);rw[Bool.and_eq_true]at this;exact this ⟨(hb.above y hy).mpr q.1,(hb.below y hy).mpr q.2⟩
  have kl:=m_ h hb s.nodes.size (once l) (jL l) (fun x hx=>hl x (d4.mp hx)) (fun x hx=>eQ (g:=.mk (l.map (val gs)) (r.map (val gs))) (List.mem_map_of_mem (d4.mp hx))) (fun x hx _=>by rw[h.size];exact hl x (d4.mp hx));have kr:=kj h hb s.nodes.size (once r) (jL r) (fun x hx=>hr x (d4.mp hx)) (fun x hx=>dN (g:=.mk (l.map (val gs)) (r.map (val gs))) (List.mem_map_of_mem (d4.mp hx))) (fun x hx _=>by rw[h.size];exact hr x (d4.mp hx));generalize onwardLeft s (beside s l r) s.nodes.size (once l)=k at kl;generalize onwardRight s (beside s l r) s.nodes.size (once r)=m at kr;have sl:=uu h (l:=k.filter fun(x:Nat)=>!k.any fun(y:Nat)=>y !=x&&s.atMost x y) (fun y hy=>kl.lt y (List.mem_filter.mp hy).1) (kl.nodup.filter _);have sr:=uu h (l:=m.filter fun(x:Nat)=>!m.any fun(y:Nat)=>y !=x&&s.atMost y x) (fun y hy=>kr.lt y (List.mem_filter.mp hy).1) (kr.nodup.filter _);have ul:=fun x hx=>Bg h kl.lt (x:=x) hx;have ur:=fun x hx=>Be h kr.lt (x:=x) hx;have fl:∀x∈k.filter (fun(x:Nat)=>!k.any fun(y:Nat)=>y !=x&&s.atMost x y),x∈k/\∀y∈k,le (val gs x) (val gs y)->x=y:=by intro x hx;rw[List.mem_filter]at hx;refine⟨hx.1,fun y hy q=>?_⟩;have:=hx.2;simp only[Bool.not_eq_true',List.any_eq_false,Bool.and_eq_true,bne_iff_ne]at this;apply Classical.byContradiction;intro ne;exact this y hy ⟨fun c=>ne c.symm,(h.most x y (kl.lt x hx.1) (kl.lt y hy)).mpr q⟩
  have fr:∀x∈m.filter (fun(x:Nat)=>!m.any fun(y:Nat)=>y !=x&&s.atMost y x),x∈m/\∀y∈m,le (val gs y) (val gs x)->x=y:=by intro x hx;rw[List.mem_filter]at hx;refine⟨hx.1,fun y hy q=>?_⟩;have:=hx.2;simp only[Bool.not_eq_true',List.any_eq_false,Bool.and_eq_true,bne_iff_ne]at this;apply Classical.byContradiction;intro ne;exact this y hy ⟨fun c=>ne c.symm,(h.most y x (kr.lt y hy) (kr.lt x hx.1)).mpr q⟩
  generalize k.filter (fun(x:Nat)=>!k.any fun(y:Nat)=>y !=x&&s.atMost x y)=k' at sl ul fl;generalize m.filter (fun(x:Nat)=>!m.any fun(y:Nat)=>y !=x&&s.atMost y x)=m' at sr ur fr;generalize sorted s k'=left at sl;generalize sorted s m'=right at sr;have hle:∀x∈left,x<gs.length:=fun x hx=>kl.lt x (fl x ((sl.2 x).mp hx)).1;have hri:∀x∈right,x<gs.length:=fun x hx=>kr.lt x (fr x ((sr.2 x).mp hx)).1
  have he:eqv (.mk (l.map (val gs)) (r.map (val gs))) (.mk (left.map (val gs)) (right.map (val gs))):=by
   refine xH ?_ ?_ ?_ ?_
   ·intro y hy;obtain⟨x,hx,rfl⟩:=List.mem_map.mp hy;exact kl.legit x (fl x ((sl.2 x).mp hx)).1
   ·intro y hy;obtain⟨x,hx,rfl⟩:=List.mem_map.mp hy;exact kr.legit x (fr x ((sr.2 x).mp hx)).1
   ·intro y hy;obtain⟨x,hx,rfl⟩:=List.mem_map.mp hy;refine kl.hand _ (fun z hz=>?_) x (d4.mpr hx);obtain⟨u,hu,q⟩:=ul z hz;exact .under _ (val gs u) (List.mem_map_of_mem ((sl.2 u).mpr hu)) q
   ·intro y hy;obtain⟨x,hx,rfl⟩:=List.mem_map.mp hy;refine kr.hand _ (fun z hz=>?_) x (d4.mpr hx);obtain⟨u,hu,q⟩:=ur z hz;exact .over _ (val gs u) (List.mem_map_of_mem ((sr.2 u).mpr hu)) q
  have lea:bc (.mk (left.map (val gs)) (right.map (val gs))):=by
   constructor
   ·intro y hy;obtain⟨x,hx,rfl⟩:=List.mem_map.mp hy;exact h.least x (hle x hx)
   ·intro y hy;obtain⟨x,hx,rfl⟩:=List.mem_map.mp hy;exact h.least x (hri x hx)
   ·intro y hy z hz q;obtain⟨x,hx,rfl⟩:=List.mem_map.mp hy;obtain⟨u,hu,rfl⟩:=List.mem_map.mp hz;rw[(fl x ((sl.2 x).mp hx)).2 u (fl u ((sl.2 u).mp hu)).1 q]
   ·intro y hy z hz q;obtain⟨x,hx,rfl⟩:=List.mem_map.mp hy;obtain⟨u,hu,rfl⟩:=List.mem_map.mp hz;rw[(fr u ((sr.2 u).mp hu)).2 x (fr x ((sr.2 x).mp hx)).1 q]
   ·intro y hy w hw q;obtain⟨x,hx,rfl⟩:=List.mem_map.mp hy;rw[h.rights (hle x hx)]at hw;obtain⟨v,hv,rfl⟩:=List.mem_map.mp hw;exact kl.not x (fl x ((sl.2 x).mp hx)).1 v hv (he.le_right.mpr q)
   ·intro y hy w hw q;obtain⟨x,hx,rfl⟩:=List.mem_map.mp hy;rw[h.lefts (hri x hx)]at hw;obtain⟨v,hv,rfl⟩:=List.mem_map.mp hw;exact kr.not x (fr x ((sr.2 x).mp hx)).1 v hv (he.le_left.mpr q)
   ·exact List.pairwise_map.mpr sl.1
   ·exact List.pairwise_map.mpr sr.1
  exact⟨_,lea,he.symm,.inr ⟨CS h hb hle hri lea he hno,h.size⟩⟩
end
def dj(Q:ae->Prop)(gs gs':List ae):Prop:=∃more,gs'=gs++more/\∀g∈more,Q g
theorem dj.refl{Q:ae->Prop}(gs:List ae):dj Q gs gs:=⟨[],by simp,by simp⟩
theorem dj.trans{Q:ae->Prop}{a b c:List ae}(h:dj Q a b)(k:dj Q b c):dj Q a c:=by obtain⟨m,rfl,hm⟩:=h;obtain⟨n,rfl,hn⟩:=k;exact⟨m++n,by simp,fun g hg=>(List.mem_append.mp hg).elim (hm g) (hn g)⟩
theorem dj.mono{Q R:ae->Prop}{a b:List ae}(h:dj Q a b)(k:∀g,Q g->R g):dj R a b:=by obtain⟨m,e,hm⟩:=h;exact⟨m,e,fun g hg=>k g (hm g hg)⟩
theorem dj.le{Q:ae->Prop}{a b:List ae}(h:dj Q a b):a.length<=b.length:=by obtain⟨m,rfl,_⟩:=h;simp
theorem dj.val{Q:ae->Prop}{a b:List ae}(h:dj Q a b){i:Nat}(hi:i<a.length):val b i=val a i:=by obtain⟨m,rfl,_⟩:=h;exact nV hi
theorem dj.map{Q:ae->Prop}{a b:List ae}(h:dj Q a b){l:List Nat}(hl:∀i∈l,i<a.length):l.map (Gth.val b)=l.map (Gth.val a):=by obtain⟨m,rfl,_⟩:=h;exact dD hl
theorem ok0:Ok store0 [aM]:=by
 have one:∀{i},i<[aM].length->i=0:=by intro i hi;simpa using hi
 constructor
 ·rfl
 ·intro i hi j hj;have:=one hi;subst this;simp[store0,Store.node,noNode]at hj
 ·intro i hi j hj;have:=one hi;subst this;simp[store0,Store.node,noNode]at hj
 ·intro i hi;have:=one hi;subst this;simp[store0,Store.node,noNode,val,aM]
 ·intro i hi;have:=one hi;subst this;simp[store0,Store.node,noNode,val,aM,born,bL]
 ·intro i hi;have:=one hi;subst this;constructor<;>simp[val,aM]
 ·intro i j hi hj _;rw[one hi,one hj]
 ·rfl
 ·intro i hi;have:=one hi;subst this;simp[store0]
 ·intro i j hi hj;have:=one hi;subst this;have:=one hj;subst this;simp[store0,Store.atMost,le_refl]
theorem GO(g:ae):∀s gs,Ok s gs->∃s' gs' i,Ok s' gs'/\dj (fun _=>True) gs gs'/\i<gs'.length/\eqv (val gs' i) g:=by
 revert g
 have row:∀l:List ae,(∀x∈l,∀s gs,Ok s gs->∃s' gs' i,Ok s' gs'/\dj (fun _=>True) gs gs'/\i<gs'.length/\eqv (val gs' i) x)->∀s gs,Ok s gs->∃(s':Store)(gs':List ae)(is:List Nat),Ok s' gs'/\dj (fun _=>True) gs gs'/\(∀i∈is,i<gs'.length)/\(∀i∈is,∃x∈l,eqv (val gs' i) x)/\(∀x∈l,∃i∈is,eqv (val gs' i) x):=by
  intro l;induction l with
  |nil=>intro _ s gs h;exact⟨s,gs,[],h,.refl _,by simp,by simp,by simp⟩
  |cons x l il=>
   intro hx s gs h;obtain⟨s1,gs1,i,h1,e1,i1,q1⟩:=hx x (by simp) s gs h;obtain⟨s2,gs2,is,h2,e2,i2,q2,q2'⟩:=il (fun y hy=>hx y (by simp[hy])) s1 gs1 h1;refine⟨s2,gs2,i::is,h2,e1.trans e2,?_,?_,?_⟩
   ·intro j hj;rcases List.mem_cons.mp hj with rfl|hj
    ·have:=e2.le;omega
    ·exact i2 j hj
   ·intro j hj;rcases List.mem_cons.mp hj with rfl|hj
    ·exact⟨x,by simp,by rw[e2.val i1];exact q1⟩
    ·obtain⟨y,hy,q⟩:=q2 j hj;exact⟨y,by simp[hy],q⟩
   ·intro y hy;rcases List.mem_cons.mp hy with rfl|hy
    ·exact⟨i,by simp,by rw[e2.val i1];exact q1⟩
    ·obtain⟨j,hj,q⟩:=q2' y hy;exact⟨j,by simp[hj],q⟩
 apply ae.ind;intro g hl hr s gs h;obtain⟨s1,gs1,l,h1,e1,l1,q1,q1'⟩:=row g.left hl s gs h;obtain⟨s2,gs2,r,h2,e2,l2,q2,q2'⟩:=row g.right hr s1 gs1 h1;have l1':∀i∈l,i<gs2.length:=fun i hi=>Nat.lt_of_lt_of_le (l1 i hi) e2.le;obtain⟨x,lx,ex,c⟩:=AE h2 l1' l2
 have eg:eqv x g:=by
  refine ex.trans ?_;rw[<-nJ g];refine zx ?_ ?_ ?_ ?_
  ·intro y hy;obtain⟨i,hi,q⟩:=q1' y hy;exact⟨val gs2 i,List.mem_map_of_mem hi,by rw[e2.val (l1 i hi)];exact q⟩
  ·intro y hy;obtain⟨i,hi,rfl⟩:=List.mem_map.mp hy;obtain⟨z,hz,q⟩:=q1 i hi;exact⟨z,hz,by rw[e2.val (l1 i hi)];exact q⟩
  ·intro y hy;obtain⟨i,hi,q⟩:=q2' y hy;exact⟨val gs2 i,List.mem_map_of_mem hi,q⟩
  ·intro y hy;obtain⟨i,hi,rfl⟩:=List.mem_map.mp hy;exact q2 i hi
 rcases c with⟨c1,c2,c3⟩|⟨c1,c2⟩
 ·exact⟨s2,gs2,_,h2,e1.trans e2,c2,by rw[c3];exact eg⟩
 ·exact⟨_,gs2++[x],gs2.length,c1,(e1.trans e2).trans ⟨[x],rfl,by simp⟩,by simp,by rw[sm];exact eg⟩
theorem kz(g:ae):∃x,bc x/\eqv x g:=by obtain⟨s,gs,i,h,_,hi,e⟩:=GO g store0 [aM] ok0;exact⟨val gs i,h.least i hi,e⟩
noncomputable def aq(g:ae):ae:=Classical.choose (kz g)
theorem cX(g:ae):bc (aq g):=(Classical.choose_spec (kz g)).1
theorem fE(g:ae):eqv (aq g) g:=(Classical.choose_spec (kz g)).2
theorem cC{x g:ae}(h:bc x)(e:eqv x g):x=aq g:=fc h (cX g) (e.trans (fE g).symm)
theorem oh{x y:ae}(e:eqv x y):aq x=aq y:=cC (cX x) ((fE x).trans e)
theorem aS{x:ae}(h:bc x):aq x=x:=(cC h (ju x)).symm
theorem uM{l r l' r':List ae}(hl:l'.map aq=l.map aq)(hr:r'.map aq=r.map aq):aq (.mk l' r')=aq (.mk l r):=by
 have key:∀{l l':List ae},l'.map aq=l.map aq->∀y∈l,∃x∈l',eqv x y:=by
  intro l l' h y hy;have:aq y∈l'.map aq:=by rw[h];exact List.mem_map_of_mem hy
  obtain⟨x,hx,e⟩:=List.mem_map.mp this;exact⟨x,hx,(fE x).symm.trans (e▸fE y)⟩
 refine oh (zx (key hl) ?_ (key hr) ?_)
 ·intro x hx;obtain⟨y,hy,e⟩:=key hl.symm x hx;exact⟨y,hy,e.symm⟩
 ·intro x hx;obtain⟨y,hy,e⟩:=key hr.symm x hx;exact⟨y,hy,e.symm⟩
theorem qD(g:ae):aq (aq g)=aq g:=aS (cX g)
theorem qB:aq aM=aM:=aS (ok0.least 0 (by simp))
section
variable{s:Store}{gs:List ae}
theorem CJ(h:Ok s gs){l r:List Nat}(hl:∀i∈l,i<gs.length)(hr:∀i∈r,i<gs.length):∃gs',Ok (form s l r).1 gs'/\dj (fun g=>g=aq (.mk (l.map (val gs)) (r.map (val gs)))) gs gs'/\(form s l r).2<gs'.length/\val gs' (form s l r).2=aq (.mk (l.map (val gs)) (r.map (val gs))):=by
 obtain⟨g,hg,he,c⟩:=AE h hl hr;have e:=cC hg he;rcases c with⟨c1,c2,c3⟩|⟨c1,c2⟩
 ·exact⟨gs,by rw[c1];exact h,.refl _,c2,c3.trans e⟩
 ·exact⟨gs++[g],c1,⟨[g],rfl,by simp[e]⟩,by rw[c2];simp,by rw[c2,sm];exact e⟩
inductive az(p:ae):ae->Prop where
 |refl:az p p
 |left (x g:ae):x∈g.left->az p x->az p g
 |right (x g:ae):x∈g.right->az p x->az p g
theorem az.trans{a b c:ae}(h:az a b)(k:az b c):az a c:=by
 induction k with
 |refl=>exact h
 |left x g hx _ ih=>exact .left x _ hx ih
 |right x g hx _ ih=>exact .right x _ hx ih
theorem az.least{a b:ae}(h:az a b)(k:bc b):bc a:=by
 induction h with
 |refl=>exact k
 |left x g hx _ ih=>exact ih (k.left hx)
 |right x g hx _ ih=>exact ih (k.right hx)
theorem fA(h:Ok s gs){S:Nat->Prop}(cl:∀i,i<gs.length->S i->(∀j∈(s.node i).left,S j)/\∀j∈(s.node i).right,S j){p g:ae}(hp:az p g):∀i,i<gs.length->S i->val gs i=g->∃j,j<=i/\S j/\val gs j=p:=by
 induction hp with
 |refl=>intro i hi si e;exact⟨i,Nat.le_refl _,si,e⟩
 |left x g hx _ ih=>intro i hi si e;rw[<-e,h.lefts hi]at hx;obtain⟨j,hj,ej⟩:=List.mem_map.mp hx;have lt:=h.left i hi j hj;obtain⟨k,hk,sk,ek⟩:=ih j (by omega) ((cl i hi si).1 j hj) ej;exact⟨k,by omega,sk,ek⟩
 |right x g hx _ ih=>intro i hi si e;rw[<-e,h.rights hi]at hx;obtain⟨j,hj,ej⟩:=List.mem_map.mp hx;have lt:=h.right i hi j hj;obtain⟨k,hk,sk,ek⟩:=ih j (by omega) ((cl i hi si).2 j hj) ej;exact⟨k,by omega,sk,ek⟩
theorem C2(l:List Nat):∀(a:Array Bool),(l.foldl (fun(a:Array Bool)(i:Nat)=>a.setIfInBounds i true) a).size=a.size/\∀j,j<a.size->((l.foldl (fun(a:Array Bool)(i:Nat)=>a.setIfInBounds i true) a).getD j false=true↔a.getD j false=true\/j∈l):=by
 induction l with
 |nil=>intro a;simp
 |cons x l ih=>
  intro a;rw[List.foldl_cons];obtain⟨p,q⟩:=ih (a.setIfInBounds x true);rw[Array.size_setIfInBounds]at p q;refine⟨p,fun j hj=>?_⟩;rw[q j hj]
  have:(a.setIfInBounds x true).getD j false=true↔a.getD j false=true\/j=x:=by
   simp only[Array.getD_eq_getD_getElem?,Array.getElem?_setIfInBounds];by_cases e:x=j
   ·subst e;simp[hj]
   ·rw[if_neg e];constructor
    ·exact .inl
    ·rintro(k|k)
     ·exact k
     ·exact absurd k.symm e
  rw[this,List.mem_cons];constructor
  ·rintro((c|c)|c)<;>simp[c]
  ·rintro(c|c|c)<;>simp[c]
structure qc(s:Store)(gs:List ae)(l:List Nat)(t:Nat)(a:Array Bool):Prop where
 size:a.size=gs.length
 sound:∀j,j<gs.length->a.getD j false=true->∃x∈l,az (val gs j) (val gs x)
 base:∀j∈l,a.getD j false=true
 closed:∀i,t<=i->i<gs.length->a.getD i false=true->∀j,(j∈(s.node i).left\/j∈(s.node i).right)->a.getD j false=true
theorem Bj(h:Ok s gs){l:List Nat}(hl:∀i∈l,i<gs.length):qc s gs l 0 (marked s l):=by
 unfold marked;rw[h.size];have st:=C2 l (Array.replicate gs.length false);generalize l.foldl (fun(a:Array Bool)(i:Nat)=>a.setIfInBounds i true) (Array.replicate gs.length false)=a0 at st
 have s0:qc s gs l gs.length a0:=by
  have sz:a0.size=gs.length:=by rw[st.1];simp
  have key:∀j,j<gs.length->(a0.getD j false=true↔j∈l):=by intro j hj;rw[st.2 j (by simp[hj])];simp[Array.getD_eq_getD_getElem?,hj]
  refine⟨sz,fun j hj q=>⟨j,(key j hj).mp q,.refl⟩,fun j hj=>(key j (hl j hj)).mpr hj,fun i hi hi'=>by omega⟩
 have stp:∀t,t<gs.length->∀a,qc s gs l (t+1) a->qc s gs l t (if a.getD t false=true then((s.node t).left++(s.node t).right).foldl (fun(a:Array Bool)(j:Nat)=>a.setIfInBounds j true) a else a):=by
  intro t ht a m;by_cases c:a.getD t false=true
  ·rw[if_pos c];have sa:=C2 ((s.node t).left++(s.node t).right) a;generalize ((s.node t).left++(s.node t).right).foldl (fun(a:Array Bool)(j:Nat)=>a.setIfInBounds j true) a=a' at sa;have sz:a'.size=gs.length:=by rw[sa.1];exact m.size
   rw[m.size]at sa;have lt:∀j,(j∈(s.node t).left\/j∈(s.node t).right)->j<t:=fun j hj=>hj.elim (h.left t ht j) (h.right t ht j);refine⟨sz,?_,?_,?_⟩
   ·intro j hj q;rcases(sa.2 j hj).mp q with q|q
    ·exact m.sound j hj q
    ·obtain⟨x,hx,px⟩:=m.sound t ht c;refine⟨x,hx,az.trans ?_ px⟩;rcases List.mem_append.mp q with q|q
     ·exact .left _ _ (by rw[h.lefts ht];exact List.mem_map_of_mem q) .refl
     ·exact .right _ _ (by rw[h.rights ht];exact List.mem_map_of_mem q) .refl
   ·intro j hj;exact(sa.2 j (hl j hj)).mpr (.inl (m.base j hj))
   ·intro i hi hi' q j hj;by_cases e:i=t
    ·subst e;have:=lt j hj;exact(sa.2 j (by omega)).mpr (.inr (List.mem_append.mpr hj))
    ·have hji:j<i:=hj.elim (h.left i hi' j) (h.right i hi' j);refine(sa.2 j (by omega)).mpr (.inl (m.closed i (by omega) hi' ?_ j hj));rcases(sa.2 i hi').mp q with q|q
     ·exact q
     ·have:=lt i (List.mem_append.mp q);omega
  ·rw[if_neg c];refine⟨m.size,m.sound,m.base,?_⟩;intro i hi hi' q j hj;by_cases e:i=t
   ·subst e;exact absurd q c
   ·exact m.closed i (by omega) hi' q j hj
 have all:∀t,t<=gs.length->∀a,qc s gs l t a->qc s gs l 0 (((List.range t).reverse).foldl (fun(a:Array Bool)(i:Nat)=>if a.getD i false=true then((s.node i).left++(s.node i).right).foldl (fun(a:Array Bool)(j:Nat)=>a.setIfInBounds j true) a else a) a):=by
  intro t;induction t with
  |zero=>intro _ a m;exact m
  |succ t ih=>intro ht a m;rw[List.range_succ,List.reverse_append,List.reverse_singleton,List.singleton_append,List.foldl_cons];exact ih (by omega) _ (stp t (by omega) a m)
 exact all _ (Nat.le_refl _) _ s0
theorem aU(h:Ok s gs){l:List Nat}(hl:∀i∈l,i<gs.length){i:Nat}:i∈partsOf s l↔i<gs.length/\∃x∈l,az (val gs i) (val gs x):=by
 have m:=Bj h hl;unfold partsOf;dsimp only;rw[List.mem_filter,List.mem_range,h.size];constructor
 ·rintro⟨a,b⟩;exact⟨a,m.sound i a b⟩
 ·rintro⟨a,x,hx,p⟩;refine⟨a,?_⟩;obtain⟨j,hj,sj,ej⟩:=fA h (S:=fun i=>(marked s l).getD i false=true) (fun i hi si=>⟨fun j hj=>m.closed i (by omega) hi si j (.inl hj),fun j hj=>m.closed i (by omega) hi si j (.inr hj)⟩) p x (hl x hx) (m.base x hx) rfl;have:j<gs.length:=by have:=hl x hx;omega
  rw[<-h.inj j i this a ej];exact sj
theorem bZ(l:List Nat):(partsOf s l).Pairwise (·<·):=by unfold partsOf;exact List.pairwise_lt_range.filter _
end
def optCount(P:List ae):Nat:=(P.map fun g=>g.left.length+g.right.length).sum
def dQ(P:List ae)(Q:ae->Prop):Prop:=P.Nodup/\∀p,p∈P↔∃x,Q x/\az p x
def b7(Q:ae->Prop):Prop:=∃P,dQ P Q/\P.length<=96/\optCount P<=1024
theorem dg{a b:List ae}(h:a.Perm b):optCount a=optCount b:=by
 unfold optCount;induction h with
 |nil=>rfl
 |cons x _ ih=>simp[ih]
 |swap x y l=>simp;omega
 |trans _ _ a b=>exact a.trans b
theorem o8{α:Type}:∀{l P:List α},l.Nodup->(∀x∈l,x∈P)->∃rest,P.Perm (l++rest)
 |[],P,_,_=>⟨P,List.Perm.refl _⟩
 |x::l,P,hn,hs=>by have:DecidableEq α:=fun _ _=>Classical.propDecidable _;rw[List.nodup_cons]at hn;have e:=List.perm_cons_erase (hs x (by simp));obtain⟨rest,q⟩:=o8 (l:=l) (P:=P.erase x) hn.2 (fun y hy=>(List.mem_erase_of_ne (show y≠x from fun c=>hn.1 (by rw[<-c];exact hy))).mpr (hs y (by simp[hy])));exact⟨rest,e.trans (List.Perm.cons x q)⟩
theorem aC{α:Type}{l P:List α}(h:l.Nodup)(k:∀x∈l,x∈P):l.length<=P.length:=by obtain⟨r,e⟩:=o8 h k;rw[e.length_eq];simp
theorem gj{l P:List ae}(h:l.Nodup)(k:∀x∈l,x∈P):optCount l<=optCount P:=by obtain⟨r,e⟩:=o8 h k;rw[dg e];unfold optCount;simp
theorem jY{α:Type}{l P:List α}(h:l.Nodup)(h':P.Nodup)(k:∀x,x∈l↔x∈P):l.Perm P:=by
 obtain⟨r,e⟩:=o8 h (fun x hx=>(k x).mp hx);cases r with
 |nil=>simpa using e.symm
 |cons y r=>have n:=e.nodup_iff.mp h';rw[List.nodup_append]at n;have hy:y∈l:=(k y).mpr (e.mem_iff.mpr (by simp));exact absurd rfl (n.2.2 y hy y (by simp))
theorem dQ.perm{P P':List ae}{Q:ae->Prop}(h:dQ P Q)(h':dQ P' Q):P.Perm P':=jY h.1 h'.1 fun x=>(h.2 x).trans (h'.2 x).symm
theorem dQ.roomy{P:List ae}{Q:ae->Prop}(h:dQ P Q):b7 Q↔P.length<=96/\optCount P<=1024:=by
 constructor
 ·rintro⟨P',h',a,b⟩;have e:=h.perm h';exact⟨by rw[e.length_eq];exact a,by rw[dg e];exact b⟩
 ·rintro⟨a,b⟩;exact⟨P,h,a,b⟩
theorem b7.congr{Q R:ae->Prop}(h:∀p,(∃x,Q x/\az p x)↔∃x,R x/\az p x):b7 Q↔b7 R:=by
 unfold b7 dQ;constructor
 ·rintro⟨P,⟨a,b⟩,c⟩;exact⟨P,⟨a,fun p=>(b p).trans (h p)⟩,c⟩
 ·rintro⟨P,⟨a,b⟩,c⟩;exact⟨P,⟨a,fun p=>(b p).trans (h p).symm⟩,c⟩
theorem b7.length_le{Q:ae->Prop}(h:b7 Q){l:List ae}(hn:l.Nodup)(hl:∀p∈l,∃x,Q x/\az p x):l.length<=96:=by obtain⟨P,p,a,_⟩:=h;exact Nat.le_trans (aC hn fun x hx=>(p.2 x).mpr (hl x hx)) a
theorem b7.options_le{Q:ae->Prop}(h:b7 Q){l:List ae}(hn:l.Nodup)(hl:∀p∈l,∃x,Q x/\az p x):optCount l<=1024:=by obtain⟨P,p,_,a⟩:=h;exact Nat.le_trans (gj hn fun x hx=>(p.2 x).mpr (hl x hx)) a
section
variable{s:Store}{gs:List ae}
theorem gG(h:Ok s gs):∀{l:List Nat},(∀i∈l,i<gs.length)->optionsIn s l=optCount (l.map (val gs))
 |[],_=>rfl
 |x::l,hl=>by
  have ih:=gG h (l:=l) fun i hi=>hl i (by simp[hi]);have hx:=hl x (by simp);have e1:(s.node x).left.length=(val gs x).left.length:=by rw[h.lefts hx];simp
  have e2:(s.node x).right.length=(val gs x).right.length:=by rw[h.rights hx];simp
  unfold optionsIn optCount at *;simp only[List.map_cons,List.foldr_cons,List.sum_cons,ih,e1,e2]
theorem fZ(h:Ok s gs){l:List Nat}(hl:∀i∈l,i<gs.length):∀i∈partsOf s l,i<gs.length:=fun i hi=>((aU h hl).mp hi).1
theorem g_(h:Ok s gs){l:List Nat}(hl:∀i∈l,i<gs.length):dQ ((partsOf s l).map (val gs)) (fun x=>∃i∈l,val gs i=x):=by
 constructor
 ·rw[List.nodup_iff_pairwise_ne,List.pairwise_map];refine List.Pairwise.imp_of_mem ?_ (bZ l);intro a b ha hb lt e;have:=h.inj a b (fZ h hl a ha) (fZ h hl b hb) e;omega
 ·intro p;rw[List.mem_map];constructor
  ·rintro⟨i,hi,rfl⟩;obtain⟨_,x,hx,q⟩:=(aU h hl).mp hi;exact⟨val gs x,⟨x,hx,rfl⟩,q⟩
  ·rintro⟨_,⟨x,hx,rfl⟩,q⟩;obtain⟨j,hj,_,e⟩:=fA h (S:=fun _=>True) (fun _ _ _=>⟨fun _ _=>trivial,fun _ _=>trivial⟩) q x (hl x hx) trivial rfl;have:=hl x hx;exact⟨j,(aU h hl).mpr ⟨by omega,x,hx,by rw[e];exact q⟩,e⟩
theorem xp(h:Ok s gs){l:List Nat}(hl:∀i∈l,i<gs.length):roomy s l=true↔b7 (fun x=>∃i∈l,val gs i=x):=by rw[(g_ h hl).roomy,<-gG h (fZ h hl)];unfold roomy;dsimp only;rw[Bool.and_eq_true,decide_eq_true_iff,decide_eq_true_iff,List.length_map];exact Iff.rfl
def w9(p:List Nat)(i:Nat):Nat:=(p.findIdx? fun(j:Nat)=>j==i).getD 0
theorem kQ{p:List Nat}{i:Nat}(h:i∈p):p[w9 p i]?=some i/\w9 p i<p.length:=by
 unfold w9;cases e:p.findIdx? fun(j:Nat)=>j==i with
 |none=>rw[List.findIdx?_eq_none_iff]at e;exact absurd (e i h) (by simp)
 |some k=>
  rw[List.findIdx?_eq_some_iff_getElem]at e;obtain⟨hk,q,_⟩:=e;have q:p[k]=i:=by simpa using q
  exact⟨by rw[Option.getD_some,List.getElem?_eq_getElem hk,q],hk⟩
theorem pD{α:Type}{p:List α}(hn:p.Nodup){i j:Nat}(hi:i<p.length)(hj:j<p.length)(e:p[i]=p[j]):i=j:=by
 rw[List.nodup_iff_pairwise_ne,List.pairwise_iff_getElem]at hn;rcases Nat.lt_trichotomy i j with c|c|c
 ·exact absurd e (hn i j hi hj c)
 ·exact c
 ·exact absurd e.symm (hn j i hj hi c)
theorem CM{p:List Nat}(hn:p.Nodup){k:Nat}(hk:k<p.length):w9 p p[k]=k:=by obtain⟨a,b⟩:=kQ (p:=p) (i:=p[k]) (List.getElem_mem hk);rw[List.getElem?_eq_getElem b]at a;exact pD hn _ _ (Option.some.inj a)
theorem Di{p:List Nat}(hs:p.Pairwise (·<·)){i j:Nat}(hi:i∈p)(hj:j∈p)(h:i<j):w9 p i<w9 p j:=by
 obtain⟨a,b⟩:=kQ hi;obtain⟨c,d⟩:=kQ hj;rw[List.getElem?_eq_getElem b]at a;rw[List.getElem?_eq_getElem d]at c;have a:=Option.some.inj a;have c:=Option.some.inj c;apply Classical.byContradiction;intro q;rcases Nat.lt_or_eq_of_le (Nat.le_of_not_lt q)with e|e
 ·have:=(List.pairwise_iff_getElem.mp hs) _ _ d b e;omega
 ·have:p[w9 p i]'b=p[w9 p j]'d:=by congr 1;exact e.symm
  omega
theorem gQ{p:List Nat}{k:Nat}(hk:k<p.length):val (p.map (val gs)) k=val gs p[k]:=by unfold val;simp[List.getD_eq_getElem?_getD,hk]
theorem vo{p:List Nat}{i:Nat}(hi:i∈p):val (p.map (val gs)) (w9 p i)=val gs i:=by obtain⟨a,b⟩:=kQ hi;rw[gQ b];rw[List.getElem?_eq_getElem b]at a;rw[Option.some.inj a]
theorem AF(h:Ok s gs){l:List Nat}(hl:∀i∈l,i<gs.length):Ok (kept s l).1 ((partsOf s l).map (val gs))/\(∀i∈partsOf s l,(kept s l).2 i<((partsOf s l).map (val gs)).length/\val ((partsOf s l).map (val gs)) ((kept s l).2 i)=val gs i):=by
 have hlt:=fZ h hl;have hs:=bZ (s:=s) l;have hn:(partsOf s l).Nodup:=hs.imp (fun a=>Nat.ne_of_lt a)
 have cl:∀i∈partsOf s l,∀j,(j∈(s.node i).left\/j∈(s.node i).right)->j∈partsOf s l:=by
  intro i hi j hj;obtain⟨hi,x,hx,q⟩:=(aU h hl).mp hi;refine(aU h hl).mpr ⟨?_,x,hx,az.trans ?_ q⟩
  ·exact Nat.lt_trans (hj.elim (h.left i hi j) (h.right i hi j)) hi
  ·rcases hj with hj|hj
   ·exact .left _ _ (by rw[h.lefts hi];exact List.mem_map_of_mem hj) .refl
   ·exact .right _ _ (by rw[h.rights hi];exact List.mem_map_of_mem hj) .refl
 unfold kept;dsimp only;generalize partsOf s l=p at *;have nd:∀k(hk:k<p.length),Store.node ⟨(p.map fun(i:Nat)=>(⟨(s.node i).left.map (w9 p),(s.node i).right.map (w9 p),(s.node i).born⟩:Node)).toArray,(p.map fun(i:Nat)=>(p.map fun(j:Nat)=>s.atMost i j).toArray).toArray⟩ k = ⟨(s.node p[k]).left.map (w9 p),(s.node p[k]).right.map (w9 p),(s.node p[k]).born⟩:=by intro k hk;simp[Store.node,Array.getD_eq_getD_getElem?,hk]
 have am:∀k(hk:k<p.length),(p.map fun(i:Nat)=>(p.map fun(j:Nat)=>s.atMost i j).toArray).toArray.getD k #[]=(p.map fun(j:Nat)=>s.atMost p[k] j).toArray:=by intro k hk;simp[Array.getD_eq_getD_getElem?,hk]
 have len:(p.map (val gs)).length=p.length:=by simp
 refine⟨?_,fun i hi=>⟨by rw[len];exact(kQ hi).2,vo hi⟩⟩;constructor
 ·simp
 ·intro k hk j hj;rw[len]at hk;have:=nd k hk;rw[show(fun i=>(List.findIdx? (fun j=>j==i) p).getD 0)=w9 p from rfl]at hj;rw[this]at hj;obtain⟨u,hu,rfl⟩:=List.mem_map.mp hj;have hpk:=List.getElem_mem hk;have q:=Di hs (cl _ hpk u (.inl hu)) hpk (h.left _ (hlt _ hpk) u hu);rw[CM hn hk]at q;exact q
 ·intro k hk j hj;rw[len]at hk;have:=nd k hk;rw[show(fun i=>(List.findIdx? (fun j=>j==i) p).getD 0)=w9 p from rfl]at hj;rw[this]at hj;obtain⟨u,hu,rfl⟩:=List.mem_map.mp hj;have hpk:=List.getElem_mem hk;have q:=Di hs (cl _ hpk u (.inr hu)) hpk (h.right _ (hlt _ hpk) u hu);rw[CM hn hk]at q;exact q
 ·intro k hk;rw[len]at hk;have:=nd k hk;rw[show(fun i=>(List.findIdx? (fun j=>j==i) p).getD 0)=w9 p from rfl];rw[this,gQ hk];have hpk:=List.getElem_mem hk;dsimp only;rw[List.map_map,List.map_map,h.game _ (hlt _ hpk)];congr 1
  ·exact List.map_congr_left fun u hu=>(vo (cl _ hpk u (.inl hu))).symm
  ·exact List.map_congr_left fun u hu=>(vo (cl _ hpk u (.inr hu))).symm
 ·intro k hk;rw[len]at hk;have:=nd k hk;rw[show(fun i=>(List.findIdx? (fun j=>j==i) p).getD 0)=w9 p from rfl];rw[this,gQ hk];exact h.bornAt _ (hlt _ (List.getElem_mem hk))
 ·intro k hk;rw[len]at hk;rw[gQ hk];exact h.least _ (hlt _ (List.getElem_mem hk))
 ·intro k m hk hm e;rw[len]at hk hm;rw[gQ hk,gQ hm]at e;have:=h.inj _ _ (hlt _ (List.getElem_mem hk)) (hlt _ (List.getElem_mem hm)) e;exact pD hn hk hm this
 ·simp
 ·intro k hk;rw[len]at hk;rw[am k hk];simp
 ·intro k m hk hm;rw[len]at hk hm;change (Array.getD (p.map fun i=>(p.map fun j=>s.atMost i j).toArray).toArray k #[]).getD m false=true↔_;rw[am k hk,gQ hk,gQ hm,<-h.most _ _ (hlt _ (List.getElem_mem hk)) (hlt _ (List.getElem_mem hm))];simp[Array.getD_eq_getD_getElem?,hm]
end
def pZ:Nat->ae
 |0=>aM
 |n+1=>.mk [pZ n] []
def pW:Nat->ae
 |0=>aM
 |n+1=>.mk [] [pW n]
def gJ(z:Int):ae:=if 0<=z then pZ z.natAbs else pW z.natAbs
def aF:Nat->Int->ae
 |0,m=>gJ m
 |k+1,m=>if m%2=0 then aF k (m/2)else .mk [aF k (m/2)] [aF k (m/2+1)]
theorem dH(n:Nat):gJ (n:Int)=pZ n:=by unfold gJ;rw[if_pos (by omega)];simp
theorem dF(n:Nat):gJ (-(n:Int))=pW n:=by
 unfold gJ;by_cases h:n=0
 ·subst h;rfl
 ·rw[if_neg (by omega)];simp
theorem eN(z:Int):(∃n:Nat,z=n+1/\gJ z=.mk [gJ (z-1)] [])\/z=0/\gJ z=aM\/(∃n:Nat,z = -(n+1)/\gJ z=.mk [] [gJ (z+1)]):=by
 rcases Int.lt_trichotomy z 0 with h|h|h
 ·refine .inr (.inr ⟨(-z-1).toNat,by omega,?_⟩);obtain⟨n,rfl⟩:∃n:Nat,z = -((n+1:Nat):Int):=⟨(-z-1).toNat,by omega⟩
  rw[dF,show(-((n+1:Nat):Int)+1) = -(n:Int) by omega,dF,pW]
 ·exact .inr (.inl ⟨h,by subst h;rfl⟩)
 ·refine .inl ⟨(z-1).toNat,by omega,?_⟩;obtain⟨n,rfl⟩:∃n:Nat,z=((n+1:Nat):Int):=⟨(z-1).toNat,by omega⟩
  rw[dH,show(((n+1:Nat):Int)-1)=(n:Int) by omega,dH,pZ]
theorem aY(k:Nat)(e:Int):aF (k+1) (2*e)=aF k e:=by rw[aF,if_pos (by omega),show(2*e)/2=e by omega]
theorem dI(k:Nat)(e:Int):aF (k+1) (2*e+1)=.mk [aF k e] [aF k (e+1)]:=by rw[aF,if_neg (by omega),show(2*e+1)/2=e by omega]
theorem dJ(m:Int):(∃e,m=2*e)\/∃e,m=2*e+1:=by
 by_cases h:m%2=0
 ·exact .inl ⟨m/2,by omega⟩
 ·exact .inr ⟨m/2,by omega⟩
theorem mU:∀(k:Nat)(m:Int)(x:ae),x∈(aF k m).left->∃e,e<m/\x=aF k e
 |0,m,x,h=>by
  rw[aF]at h;rcases eN m with⟨n,e,q⟩|⟨e,q⟩|⟨n,e,q⟩
  ·rw[q]at h;simp at h;exact⟨m-1,by omega,by rw[aF];exact h⟩
  ·rw[q]at h;simp[aM]at h
  ·rw[q]at h;simp at h
 |k+1,m,x,h=>by
  rcases dJ m with⟨e,rfl⟩|⟨e,rfl⟩
  ·rw[aY]at h;obtain⟨f,hf,rfl⟩:=mU k e x h;exact⟨2*f,by omega,(aY k f).symm⟩
  ·rw[dI]at h;simp at h;exact⟨2*e,by omega,by rw[aY];exact h⟩
theorem jD:∀(k:Nat)(m:Int)(x:ae),x∈(aF k m).right->∃e,m<e/\x=aF k e
 |0,m,x,h=>by
  rw[aF]at h;rcases eN m with⟨n,e,q⟩|⟨e,q⟩|⟨n,e,q⟩
  ·rw[q]at h;simp at h
  ·rw[q]at h;simp[aM]at h
  ·rw[q]at h;simp at h;exact⟨m+1,by omega,by rw[aF];exact h⟩
 |k+1,m,x,h=>by
  rcases dJ m with⟨e,rfl⟩|⟨e,rfl⟩
  ·rw[aY]at h;obtain⟨f,hf,rfl⟩:=jD k e x h;exact⟨2*f,by omega,(aY k f).symm⟩
  ·rw[dI]at h;simp at h;exact⟨2*(e+1),by omega,by rw[aY];exact h⟩
theorem ot:∀(k:Nat){a b:Int},b<a->(∃e,aF k e∈(aF k a).left/\b<=e)\/∃e,aF k e∈(aF k b).right/\e<=a
 |0,a,b,h=>by
  rcases eN a with⟨n,e,q⟩|⟨e,q⟩|⟨n,e,q⟩
  ·exact .inl ⟨a-1,by rw[aF,aF,q];simp,by omega⟩
  ·rcases eN b with⟨n,e',q'⟩|⟨e',q'⟩|⟨n,e',q'⟩
   ·omega
   ·omega
   ·exact .inr ⟨b+1,by rw[aF,aF,q'];simp,by omega⟩
  ·rcases eN b with⟨n,e',q'⟩|⟨e',q'⟩|⟨n,e',q'⟩
   ·omega
   ·omega
   ·exact .inr ⟨b+1,by rw[aF,aF,q'];simp,by omega⟩
 |k+1,a,b,h=>by
  rcases dJ a with⟨c,rfl⟩|⟨c,rfl⟩
  ·rcases dJ b with⟨d,rfl⟩|⟨d,rfl⟩
   ·rw[aY,aY];rcases ot k (a:=c) (b:=d) (by omega)with⟨e,p,q⟩|⟨e,p,q⟩
    ·exact .inl ⟨2*e,by rw[aY];exact p,by omega⟩
    ·exact .inr ⟨2*e,by rw[aY];exact p,by omega⟩
   ·exact .inr ⟨2*(d+1),by rw[aY,dI];simp,by omega⟩
  ·exact .inl ⟨2*c,by rw[aY,dI];simp,by omega⟩
theorem rp(k:Nat)(a b:Int):le (aF k a) (aF k b)↔a<=b:=by
 have:∀n,∀a b:Int,sizeOf (aF k a)+sizeOf (aF k b)<n->(le (aF k a) (aF k b)↔a<=b):=by
  intro n;induction n with
  |zero=>intro a b h;omega
  |succ n ih=>
   intro a b h;constructor
   ·intro q;apply Classical.byContradiction;intro c;rcases ot k (a:=a) (b:=b) (by omega)with⟨e,p,r⟩|⟨e,p,r⟩
    ·have:=ft p;exact(bO.mp q).1 _ p ((ih b e (by omega)).mpr r)
    ·have:=dG p;exact(bO.mp q).2 _ p ((ih e a (by omega)).mpr r)
   ·intro q;rw[bO];constructor
    ·intro z hz c;have:=ft hz;obtain⟨e,he,rfl⟩:=mU k a z hz;have:=(ih b e (by omega)).mp c;omega
    ·intro z hz c;have:=dG hz;obtain⟨e,he,rfl⟩:=jD k b z hz;have:=(ih e a (by omega)).mp c;omega
 exact this _ a b (Nat.lt_succ_self _)
theorem lO:∀(k:Nat)(m:Int)(x w:ae),x∈(aF k m).left->w∈x.right->∃e,m<e/\w=aF k e
 |0,m,x,w,h,hw=>by
  rw[aF]at h;rcases eN m with⟨n,e,q⟩|⟨e,q⟩|⟨n,e,q⟩
  ·rw[q]at h;simp at h;subst h;have:m-1=(n:Int):=by omega
   rw[this,dH]at hw;cases n<;>simp[pZ,aM]at hw
  ·rw[q]at h;simp[aM]at h
  ·rw[q]at h;simp at h
 |k+1,m,x,w,h,hw=>by
  rcases dJ m with⟨e,rfl⟩|⟨e,rfl⟩
  ·rw[aY]at h;obtain⟨f,hf,rfl⟩:=lO k e x w h hw;exact⟨2*f,by omega,(aY k f).symm⟩
  ·rw[dI]at h;simp at h;subst h;obtain⟨f,hf,rfl⟩:=jD k e w hw;exact⟨2*f,by omega,(aY k f).symm⟩
theorem j8:∀(k:Nat)(m:Int)(x w:ae),x∈(aF k m).right->w∈x.left->∃e,e<m/\w=aF k e
 |0,m,x,w,h,hw=>by
  rw[aF]at h;rcases eN m with⟨n,e,q⟩|⟨e,q⟩|⟨n,e,q⟩
  ·rw[q]at h;simp at h
  ·rw[q]at h;simp[aM]at h
  ·rw[q]at h;simp at h;subst h;have:m+1 = -(n:Int):=by omega
   rw[this,dF]at hw;cases n<;>simp[pW,aM]at hw
 |k+1,m,x,w,h,hw=>by
  rcases dJ m with⟨e,rfl⟩|⟨e,rfl⟩
  ·rw[aY]at h;obtain⟨f,hf,rfl⟩:=j8 k e x w h hw;exact⟨2*f,by omega,(aY k f).symm⟩
  ·rw[dI]at h;simp at h;subst h;obtain⟨f,hf,rfl⟩:=mU k (e+1) w hw;exact⟨2*f,by omega,(aY k f).symm⟩
theorem uH{R:ae->ae->Prop}{l:List ae}(h:l.length<=1):l.Pairwise R:=by
 match l,h with
 |[],_=>simp
 |[x],_=>simp
 |_::_::_,h=>simp at h
theorem xO{l:List ae}(h:l.length<=1):∀x∈l,∀y∈l,le x y->x=y:=by
 match l,h with
 |[],_=>simp
 |[x],_=>intro a ha b hb _;simp at ha hb;rw[ha,hb]
 |_::_::_,h=>simp at h
theorem hX:∀(k:Nat)(m:Int),(aF k m).left.length<=1/\(aF k m).right.length<=1
 |0,m=>by rw[aF];rcases eN m with⟨n,e,q⟩|⟨e,q⟩|⟨n,e,q⟩<;>rw[q]<;>simp[aM]
 |k+1,m=>by
  rcases dJ m with⟨e,rfl⟩|⟨e,rfl⟩
  ·rw[aY];exact hX k e
  ·rw[dI];simp
theorem fF(k:Nat)(m:Int):bc (aF k m):=by
 have:∀n,∀m:Int,sizeOf (aF k m)<n->bc (aF k m):=by
  intro n;induction n with
  |zero=>intro m h;omega
  |succ n ih=>
   intro m h;constructor
   ·intro x hx;have:=ft hx;obtain⟨e,_,rfl⟩:=mU k m x hx;exact ih e (by omega)
   ·intro x hx;have:=dG hx;obtain⟨e,_,rfl⟩:=jD k m x hx;exact ih e (by omega)
   ·exact xO (hX k m).1
   ·exact xO (hX k m).2
   ·intro x hx w hw q;obtain⟨e,he,rfl⟩:=lO k m x w hx hw;have:=(rp k _ _).mp q;omega
   ·intro x hx w hw q;obtain⟨e,he,rfl⟩:=j8 k m x w hx hw;have:=(rp k _ _).mp q;omega
   ·exact uH (hX k m).1
   ·exact uH (hX k m).2
 exact this _ m (Nat.lt_succ_self _)
theorem yT(n:Nat):bc (pZ n):=by have:=fF 0 n;rwa [aF,dH]at this
theorem yY(n:Nat):bc (pW n):=by have:=fF 0 (-(n:Int));rwa [aF,dF]at this
theorem yu{a b:Int}(h:gJ a=gJ b):a=b:=by
 have e:eqv (aF 0 a) (aF 0 b):=by rw[aF,aF,h];exact ju _
 have p:=(rp 0 a b).mp e.1;have q:=(rp 0 b a).mp e.2;omega
theorem kN:∀(k:Nat)(m:Int),aF (leastOf k m).k (leastOf k m).m=aF k m
 |0,m=>rfl
 |k+1,m=>by
  rw[leastOf];by_cases h:m%2=0
  ·rw[if_pos h,kN k,aF,if_pos h]
  ·rw[if_neg h]
theorem pS : ∀ (n j : Nat), j <= n -> az (pZ j) (pZ n)
  | 0, j, h => by have : j = 0 := by omega
                  subst this; exact .refl
  | n + 1, j, h => by
    by_cases e : j = n + 1
    · subst e; exact .refl
    · exact .left (pZ n) _ (by simp [pZ]) (pS n j (by omega))
theorem pw : ∀ (n j : Nat), j <= n -> az (pW j) (pW n)
  | 0, j, h => by have : j = 0 := by omega
                  subst this; exact .refl
  | n + 1, j, h => by
    by_cases e : j = n + 1
    · subst e; exact .refl
    · exact .right (pW n) _ (by simp [pW]) (pw n j (by omega))
theorem rR:∀(k:Nat)(m:Int),az (gJ (m/2^k)) (aF k m)
 |0,m=>by rw[aF];simp;exact .refl
 |k+1,m=>by
  have e:m/2^(k+1)=m/2/2^k:=by rw[Int.ediv_ediv_of_nonneg (by omega),Int.pow_succ,Int.mul_comm]
  have:=rR k (m/2);rw[<-e]at this;rw[aF];split
  ·exact this
  ·exact .left _ _ (by simp) this
theorem pY:∀(k:Nat)(m:Int),az (gJ (-((-m)/2^k))) (aF k m)
 |0,m=>by rw[aF];simp;exact .refl
 |k+1,m=>by
  have e:(-m)/2^(k+1)=(-m)/2/2^k:=by rw[Int.ediv_ediv_of_nonneg (by omega),Int.pow_succ,Int.mul_comm]
  rw[aF];split
  ·have:=pY k (m/2);rw[e,show(-m)/2 = -(m/2) by omega];exact this
  ·have:=pY k (m/2+1);rw[e,show(-m)/2 = -(m/2+1) by omega];exact .right _ _ (by simp) this
theorem pq{α β:Type}{f:α->β}:∀{l:List α},(∀x∈l,∀y∈l,f x=f y->x=y)->l.Nodup->(l.map f).Nodup:=by intro l h hn;rw[List.nodup_iff_pairwise_ne,List.pairwise_map];rw[List.nodup_iff_pairwise_ne]at hn;exact List.Pairwise.imp_of_mem (fun ha hb ne e=>ne (h _ ha _ hb e)) hn
theorem w8{k:Nat}{m:Int}(h:96*2^k<=m.natAbs){Q:ae->Prop}(hq:Q (aF k m)):¬b7 Q:=by
 intro r;have pos:(0:Int)<2^k:=Int.pow_pos (by omega);have cast:((2^k:Nat):Int)=(2:Int)^k:=by simp
 by_cases c:0<=m
 ·have hm:96*(2:Int)^k<=m:=by rw[<-cast];omega
  have hf:96<=m/2^k:=(Int.le_ediv_iff_mul_le pos).mpr hm;obtain⟨n,hn⟩:∃n:Nat,m/2^k=(n:Int):=⟨(m/2^k).toNat,by omega⟩
  have p:=rR k m;rw[hn,dH]at p
  have:=r.length_le (l:=(List.range 97).map pZ) (pq (by
   intro x hx y hy e;have:=yu (a:=x) (b:=y) (by rw[dH,dH];exact e);omega) List.nodup_range) (by
   intro g hg;obtain⟨j,hj,rfl⟩:=List.mem_map.mp hg;rw[List.mem_range]at hj;exact⟨_,hq,(pS n j (by omega)).trans p⟩)
  simp at this
 ·have hm:96*(2:Int)^k <= -m:=by rw[<-cast];omega
  have hf:96<=(-m)/2^k:=(Int.le_ediv_iff_mul_le pos).mpr hm;obtain⟨n,hn⟩:∃n:Nat,(-m)/2^k=(n:Int):=⟨((-m)/2^k).toNat,by omega⟩
  have p:=pY k m;rw[hn,dF]at p
  have:=r.length_le (l:=(List.range 97).map pW) (pq (by
   intro x hx y hy e;have:=yu (a:=-(x:Int)) (b:=-(y:Int)) (by rw[dF,dF];exact e);omega) List.nodup_range) (by
   intro g hg;obtain⟨j,hj,rfl⟩:=List.mem_map.mp hg;rw[List.mem_range]at hj;exact⟨_,hq,(pw n j (by omega)).trans p⟩)
  simp at this
def gh:Nat->List ae
 |0=>[]
 |n+1=>gh n++[.mk (gh n) (gh n)]
def bY(n:Nat):ae:=.mk (gh n) (gh n)
theorem jn:∀n,gh n=(List.range n).map bY
 |0=>rfl
 |n+1=>by rw[gh,jn n,List.range_succ,List.map_append,<-jn n];rfl
theorem cw{n:Nat}{x:ae}:x∈gh n↔∃i,i<n/\bY i=x:=by rw[jn];simp
theorem mn{i j:Nat}(h:le (bY i) (bY j)):i=j:=by
 rcases Nat.lt_trichotomy i j with c|c|c
 ·exact absurd h (dN (cw.mpr ⟨i,c,rfl⟩))
 ·exact c
 ·exact absurd h (eQ (cw.mpr ⟨j,c,rfl⟩))
theorem oj:∀(l:List ae)(m:Nat)(x:ae),bL m (l++[x])=max (bL m l) (born x+1)
 |[],m,x=>by simp[bL]
 |y::l,m,x=>by rw[List.cons_append,bL,bL,oj l]
theorem qz:∀n,bL 0 (gh n)=n
 |0=>by simp[gh,bL]
 |n+1=>by rw[gh,oj,born,qz n];omega
theorem sJ(n:Nat):born (bY n)=n:=by unfold bY;rw[born,qz];omega
theorem sU(n:Nat):(gh n).Pairwise before:=by rw[jn,List.pairwise_map];exact List.Pairwise.imp (fun h=>kE (by rw[sJ,sJ];exact h)) List.pairwise_lt_range
theorem qk(n:Nat):bc (bY n):=by
 induction n using Nat.strongRecOn with
 |ind n ih=>
  constructor
  ·intro x hx;obtain⟨i,hi,rfl⟩:=cw.mp hx;exact ih i hi
  ·intro x hx;obtain⟨i,hi,rfl⟩:=cw.mp hx;exact ih i hi
  ·intro x hx y hy q;obtain⟨i,hi,rfl⟩:=cw.mp hx;obtain⟨j,hj,rfl⟩:=cw.mp hy;rw[mn q]
  ·intro x hx y hy q;obtain⟨i,hi,rfl⟩:=cw.mp hx;obtain⟨j,hj,rfl⟩:=cw.mp hy;rw[mn q]
  ·intro x hx w hw q;obtain⟨i,hi,rfl⟩:=cw.mp hx;obtain⟨j,hj,rfl⟩:=cw.mp hw;have:=mn q;omega
  ·intro x hx w hw q;obtain⟨i,hi,rfl⟩:=cw.mp hx;obtain⟨j,hj,rfl⟩:=cw.mp hw;have:=mn q;omega
  ·exact sU n
  ·exact sU n
theorem nW{j n:Nat}(h:j<=n):az (bY j) (bY n):=by
 by_cases e:j=n
 ·subst e;exact .refl
 ·exact .left (bY j) _ (cw.mpr ⟨j,by omega,rfl⟩) .refl
theorem wo(n:Nat):(gh n).length=n:=by rw[jn];simp
theorem Bm{n:Nat}(h:40<n){Q:ae->Prop}(hq:Q (bY n)):¬b7 Q:=by
 intro r
 have:=r.options_le (l:=(List.range 42).map bY) (pq (by
   intro x hx y hy e;exact mn (by rw[e];exact le_refl _)) List.nodup_range) (by
  intro g hg;obtain⟨j,hj,rfl⟩:=List.mem_map.mp hg;rw[List.mem_range]at hj;exact⟨_,hq,nW (by omega)⟩)
 unfold optCount at this;rw[List.map_map]at this;have e:((fun g:ae=>g.left.length+g.right.length)∘bY)=fun n=>n+n:=by funext n;simp[bY,wo]
 rw[e]at this;revert this;decide
def oy(Q:ae->Prop)(gs:List ae)(x:Store×Nat)(g:ae):Prop:=∃gs',Ok x.1 gs'/\dj Q gs gs'/\x.2<gs'.length/\val gs' x.2=g
def yE:ae->Prop:=fun _=>True
theorem dj.any{Q:ae->Prop}{a b:List ae}(h:dj Q a b):dj yE a b:=h.mono fun _ _=>trivial
section
variable{s:Store}{gs:List ae}
theorem dP(h:Ok s gs){l r:List Nat}(hl:∀i∈l,i<gs.length)(hr:∀i∈r,i<gs.length):oy (fun g=>g=aq (.mk (l.map (val gs)) (r.map (val gs)))) gs (form s l r) (aq (.mk (l.map (val gs)) (r.map (val gs)))):=CJ h hl hr
theorem ko(h:Ok s gs):oy yE gs (zeroIn s) aM:=by obtain⟨gs',a,b,c,d⟩:=dP h (l:=[]) (r:=[]) (by simp) (by simp);exact⟨gs',a,b.any,c,d.trans qB⟩
theorem A9(n:Nat):∀{x:Store×Nat}{gs:List ae}{j:Nat},oy yE gs x (pZ j)->oy yE gs (wholes true n x) (pZ (j+n)):=by
 induction n with
 |zero=>intro x gs j h;exact h
 |succ n ih=>intro x gs j h;rw[wholes,if_pos rfl,show j+(n+1)=(j+1)+n by omega];refine ih ?_;obtain⟨gs1,a,b,c,d⟩:=h;obtain⟨gs2,a',b',c',d'⟩:=dP a (l:=[x.2]) (r:=[]) (by simpa using c) (by simp);refine⟨gs2,a',b.trans b'.any,c',d'.trans ?_⟩;simp only[List.map_cons,List.map_nil,d];exact aS (yT (j+1))
theorem xX(n:Nat):∀{x:Store×Nat}{gs:List ae}{j:Nat},oy yE gs x (pW j)->oy yE gs (wholes false n x) (pW (j+n)):=by
 induction n with
 |zero=>intro x gs j h;exact h
 |succ n ih=>intro x gs j h;rw[wholes,if_neg (by simp),show j+(n+1)=(j+1)+n by omega];refine ih ?_;obtain⟨gs1,a,b,c,d⟩:=h;obtain⟨gs2,a',b',c',d'⟩:=dP a (l:=[]) (r:=[x.2]) (by simp) (by simpa using c);refine⟨gs2,a',b.trans b'.any,c',d'.trans ?_⟩;simp only[List.map_cons,List.map_nil,d];exact aS (yY (j+1))
theorem rZ(h:Ok s gs)(z:Int):oy yE gs (intIn s z) (gJ z):=by
 unfold intIn gJ;by_cases c:0<=z
 ·rw[if_pos c,decide_eq_true c];have:=A9 z.natAbs (j:=0) (ko h);rwa [Nat.zero_add]at this
 ·rw[if_neg c,decide_eq_false c];have:=xX z.natAbs (j:=0) (ko h);rwa [Nat.zero_add]at this
def EL(gs:List ae)(x:Store×Nat×Nat)(g h:ae):Prop:=∃gs',Ok x.1 gs'/\dj yE gs gs'/\x.2.1<gs'.length/\x.2.2<gs'.length/\val gs' x.2.1=g/\val gs' x.2.2=h
theorem oY(m:Int):∀(k j:Nat)(x:Store×Nat×Nat),EL gs x (aF j (m/2^k)) (aF j (m/2^k+1))->EL gs (halving m k x) (aF (j+k) m) (aF (j+k) (m+1))
 |0,j,x,h=>by simpa[halving]using h
 |k+1,j,x,h=>by
  rw[halving,show j+(k+1)=(j+1)+k by omega];apply oY m k (j+1);obtain⟨gs1,a,b,c1,c2,d1,d2⟩:=h;obtain⟨gs2,a',b',c',d'⟩:=dP a (l:=[x.2.1]) (r:=[x.2.2]) (by simpa using c1) (by simpa using c2);simp only[List.map_cons,List.map_nil,d1,d2]at d';have e:m/2^(k+1)=m/2^k/2:=by rw[Int.pow_succ,Int.ediv_ediv_of_nonneg (Int.pow_nonneg (by omega))]
  rw[e]at d1 d2 d';have d'':=d'.trans (show _=aF (j+1) (2*(m/2^k/2)+1) by rw[<-dI];exact aS (fF _ _));have g1:=b'.val c1;have g2:=b'.val c2;have l1:x.2.1<gs2.length:=Nat.lt_of_lt_of_le c1 b'.le;have l2:x.2.2<gs2.length:=Nat.lt_of_lt_of_le c2 b'.le;generalize m/2^k=q at *;by_cases hq:q%2=0
  ·rw[if_pos hq];have eq:q=2*(q/2):=by omega
   refine⟨gs2,a',b.trans b'.any,l1,c',?_,?_⟩
   ·rw[g1,d1];conv=>rhs;rw[eq]
    exact(aY j (q/2)).symm
   ·rw[d''];congr 1;omega
  ·rw[if_neg hq];refine⟨gs2,a',b.trans b'.any,c',l2,?_,?_⟩
   ·rw[d''];congr 1;omega
   ·rw[g2,d2,<-aY];congr 1;omega
theorem t5(h:Ok s gs)(k:Nat)(m:Int):oy yE gs (numberIn k m s) (aF k m):=by unfold numberIn;dsimp only;obtain⟨g1,a1,b1,c1,d1⟩:=rZ h (m/2^k);obtain⟨g2,a2,b2,c2,d2⟩:=rZ a1 (m/2^k+1);have:=oY (gs:=gs) m k 0 ((intIn (intIn s (m/2^k)).1 (m/2^k+1)).1,(intIn s (m/2^k)).2,(intIn (intIn s (m/2^k)).1 (m/2^k+1)).2) ⟨g2,a2,b1.trans b2,Nat.lt_of_lt_of_le c1 b2.le,c2,(b2.val c1).trans d1,d2⟩;rw[Nat.zero_add]at this;obtain⟨g3,a3,b3,c3,_,d3,_⟩:=this;exact⟨g3,a3,b3,c3,d3⟩
theorem rP(h:Ok s gs):∀n,∃gs',Ok (((List.range n).foldl (fun(x:Store×List Nat)(_:Nat)=>let y:=form x.1 x.2 x.2
  (y.1,x.2++[y.2])) (s,[]))).1 gs'/\dj yE gs gs'/\(∀i∈((List.range n).foldl (fun(x:Store×List Nat)(_:Nat)=>let y:=form x.1 x.2 x.2
  (y.1,x.2++[y.2])) (s,[])).2,i<gs'.length)/\((List.range n).foldl (fun(x:Store×List Nat)(_:Nat)=>let y:=form x.1 x.2 x.2
  (y.1,x.2++[y.2])) (s,[])).2.map (val gs')=gh n
 |0=>⟨gs,h,.refl _,by simp,rfl⟩
 |n+1=>by
  obtain⟨g1,a,b,c,d⟩:=rP h n
  rw[List.range_succ,List.foldl_append]
  generalize (List.range n).foldl (fun(x:Store×List Nat)(_:Nat)=>let y:=form x.1 x.2 x.2
   (y.1,x.2++[y.2])) (s,[])=x at *
  obtain⟨g2,a',b',c',d'⟩:=dP a c c
  rw[d]at d'
  refine⟨g2,a',b.trans b'.any,?_,?_⟩
  ·intro i hi
   rcases List.mem_append.mp hi with hi|hi
   ·exact Nat.lt_of_lt_of_le (c i hi) b'.le
   ·simp at hi;subst hi;exact c'
  ·simp only[List.foldl_cons,List.foldl_nil,List.map_append,List.map_cons,List.map_nil]
   rw[b'.map c,d,d',gh]
   congr 2
   exact aS (qk n)
theorem wH(h:Ok s gs)(n:Nat):oy yE gs ((heapsIn s n).1,(heapsIn s n).2.getLastD 0) (bY n):=by
 unfold heapsIn
 obtain⟨g1,a,b,c,d⟩:=rP h (n+1)
 generalize (List.range (n+1)).foldl (fun(x:Store×List Nat)(_:Nat)=>let y:=form x.1 x.2 x.2
   (y.1,x.2++[y.2])) (s,[])=x at *
 have ne:x.2≠[]:=by
  intro e;rw[e]at d;simp[gh]at d
 have e:x.2.getLastD 0=x.2.getLast ne:=by
  rw[List.getLastD_eq_getLast?,List.getLast?_eq_some_getLast ne];rfl
 refine⟨g1,a,b,?_,?_⟩
 ·dsimp only;rw[e];exact c _ (List.getLast_mem ne)
 ·dsimp only
  rw[e]
  have:(x.2.map (val g1)).getLast (by simpa using ne)=bY n:=by
   simp[d,gh,bY]
  rwa [List.getLast_map]at this
mutual
def bo:ae->ae
 |.mk l r=>.mk (Cy r) (Cy l)
def Cy:List ae->List ae
 |[]=>[]
 |x::l=>bo x::Cy l
end
theorem vM:∀l,Cy l=l.map bo
 |[]=>rfl
 |x::l=>by rw[Cy,vM l];rfl
theorem oV(g:ae):bo g=.mk (g.right.map bo) (g.left.map bo):=by cases g;rw[bo,vM,vM];rfl
theorem xY(g:ae):aq (bo g)=aq (.mk (g.right.map fun x=>aq (bo x)) (g.left.map fun x=>aq (bo x))):=by rw[oV];refine uM ?_ ?_<;>simp[List.map_map,Function.comp_def,qD]
theorem qA{t:Table}{i y j:Nat}:look (t++[(i,y)]) j=if(∃x∈t,x.1=j)then look t j else if i=j then y else 0:=by
 unfold look;rw[List.find?_append];cases e:t.find? fun(y:Nat×Nat)=>y.1==j with
 |none=>
  rw[List.find?_eq_none]at e;rw[if_neg (by rintro⟨x,hx,q⟩;exact e x hx (by simp[q]))];by_cases c:i=j
  ·simp[c]
  ·simp[c]
 |some x=>rw[if_pos ⟨x,List.mem_of_find?_eq_some e,by simpa using List.find?_some e⟩];simp
structure yG(gs gs':List ae)(q:List Nat)(f:ae->ae)(t:Table):Prop where
 keys:t.map (·.1)=q
 lt:∀i∈q,look t i<gs'.length
 val:∀i∈q,val gs' (look t i)=f (val gs i)
theorem yG.nil{gs gs':List ae}{f:ae->ae}:yG gs gs' [] f []:=⟨rfl,by simp,by simp⟩
theorem yG.has{gs gs':List ae}{q:List Nat}{f:ae->ae}{t:Table}(h:yG gs gs' q f t)(j:Nat):(∃x∈t,x.1=j)↔j∈q:=by rw[<-h.keys,List.mem_map]
theorem yG.snoc{gs gs1 gs2:List ae}{q:List Nat}{f:ae->ae}{t:Table}(h:yG gs gs1 q f t){Q:ae->Prop}(g:dj Q gs1 gs2){i y:Nat} (hi:i∉q) (hy:y<gs2.length) (hv:Gth.val gs2 y=f (Gth.val gs i)):yG gs gs2 (q++[i]) f (t++[(i,y)]):=by
 have e1:∀j∈q,look (t++[(i,y)]) j=look t j:=by intro j hj;rw[qA,if_pos ((h.has j).mpr hj)]
 have e2:look (t++[(i,y)]) i=y:=by rw[qA,if_neg (fun q=>hi ((h.has i).mp q)),if_pos rfl]
 refine⟨by rw[List.map_append,h.keys];rfl,?_,?_⟩
 ·intro j hj;rcases List.mem_append.mp hj with hj|hj
  ·rw[e1 j hj];exact Nat.lt_of_lt_of_le (h.lt j hj) g.le
  ·simp at hj;subst hj;rw[e2];exact hy
 ·intro j hj;rcases List.mem_append.mp hj with hj|hj
  ·rw[e1 j hj,g.val (h.lt j hj)];exact h.val j hj
  ·simp at hj;subst hj;rw[e2];exact hv
theorem yG.grow{gs gs1 gs2:List ae}{q:List Nat}{f:ae->ae}{t:Table}(h:yG gs gs1 q f t){Q:ae->Prop}(g:dj Q gs1 gs2):yG gs gs2 q f t:=⟨h.keys,fun i hi=>Nat.lt_of_lt_of_le (h.lt i hi) g.le,fun i hi=>(g.val (h.lt i hi)).trans (h.val i hi)⟩
theorem jO{p:List Nat}(hs:p.Pairwise (·<·)){q r:List Nat}{i j:Nat}(e:p=q++i::r)(hj:j∈p)(lt:j<i):j∈q:=by
 subst e;rcases List.mem_append.mp hj with c|c
 ·exact c
 ·rw[List.pairwise_append]at hs;rcases List.mem_cons.mp c with c|c
  ·omega
  ·have:=(List.pairwise_cons.mp hs.2.1).1 j c;omega
theorem iM(h:Ok s gs){l:List Nat}(hl:∀i∈l,i<gs.length){s':Store}{gs':List ae}(h':Ok s' gs')(g:dj yE gs gs'){i:Nat}(hi:i∈partsOf s l){j:Nat} (hj:j∈(s'.node i).left\/j∈(s'.node i).right):j<i/\j∈partsOf s l:=by
 obtain⟨lt,x,hx,q⟩:=(aU h hl).mp hi;have lt':i<gs'.length:=Nat.lt_of_lt_of_le lt g.le;have ji:j<i:=hj.elim (h'.left i lt' j) (h'.right i lt' j);refine⟨ji,(aU h hl).mpr ⟨by omega,x,hx,az.trans ?_ q⟩⟩;rw[<-g.val lt,<-g.val (show j<gs.length by omega)];rcases hj with hj|hj
 ·exact .left _ _ (by rw[h'.lefts lt'];exact List.mem_map_of_mem hj) .refl
 ·exact .right _ _ (by rw[h'.rights lt'];exact List.mem_map_of_mem hj) .refl
def x9(a:ae)(g:ae):Prop:=∃u,az u a/\g=aq (bo u)
theorem qm(h:Ok s gs){a:Nat}(ha:a<gs.length):∀(r q:List Nat)(x:Store×Table),partsOf s [a]=q++r->
  (∃gs',Ok x.1 gs'/\dj (x9 (val gs a)) gs gs'/\yG gs gs' q (fun g=>aq (bo g)) x.2)->
  ∃gs',Ok (r.foldl (fun(x:Store×Table)(i:Nat)=>let n:=x.1.node i
   let y:=form x.1 (n.right.map (look x.2)) (n.left.map (look x.2))
   (y.1,x.2++[(i,y.2)])) x).1 gs'/\dj (x9 (val gs a)) gs gs'/\yG gs gs' (partsOf s [a]) (fun g=>aq (bo g)) (r.foldl (fun(x:Store×Table)(i:Nat)=>let n:=x.1.node i
   let y:=form x.1 (n.right.map (look x.2)) (n.left.map (look x.2))
   (y.1,x.2++[(i,y.2)])) x).2
 |[],q,x,e,ih=>by rw[e,List.append_nil];exact ih
 |i::r,q,x,e,ih=>by
  rw[List.foldl_cons]
  refine qm h ha r (q++[i]) _ (by rw[e];simp) ?_
  obtain⟨gs1,a1,b1,t1⟩:=ih
  have hl:∀i∈[a],i<gs.length:=by simpa using ha
  have hs:=bZ (s:=s) [a]
  have hi:i∈partsOf s [a]:=by rw[e];simp
  have lt:i<gs.length:=fZ h hl i hi
  have lt1:i<gs1.length:=Nat.lt_of_lt_of_le lt b1.le
  have op:∀j,(j∈(x.1.node i).left\/j∈(x.1.node i).right)->j∈q:=by
   intro j hj
   obtain⟨u,v⟩:=iM h hl a1 b1.any hi hj
   exact jO hs e v u
  obtain⟨gs2,a2,b2,c2,d2⟩:=dP a1 (l:=(x.1.node i).right.map (look x.2)) (r:=(x.1.node i).left.map (look x.2))
   (by intro j hj;obtain⟨u,hu,rfl⟩:=List.mem_map.mp hj;exact t1.lt u (op u (.inr hu)))
   (by intro j hj;obtain⟨u,hu,rfl⟩:=List.mem_map.mp hj;exact t1.lt u (op u (.inl hu)))
  have pi:az (Gth.val gs i) (Gth.val gs a):=by
   obtain⟨_,y,hy,q⟩:=(aU h hl).mp hi;simp at hy;subst hy;exact q
  have eq:aq (.mk (((x.1.node i).right.map (look x.2)).map (Gth.val gs1)) (((x.1.node i).left.map (look x.2)).map (Gth.val gs1)))=aq (bo (Gth.val gs i)):=by
   rw[<-b1.val lt,xY,a1.lefts lt1,a1.rights lt1]
   have lo:∀j,(j∈(x.1.node i).left\/j∈(x.1.node i).right)->Gth.val gs1 (look x.2 j)=aq (bo (Gth.val gs1 j)):=by
    intro j hj
    rw[t1.val j (op j hj)]
    have:=(iM h hl a1 b1.any hi hj).1
    rw[b1.val (show j<gs.length by omega)]
   congr 2
   ·rw[List.map_map,List.map_map];exact List.map_congr_left fun j hj=>lo j (.inr hj)
   ·rw[List.map_map,List.map_map];exact List.map_congr_left fun j hj=>lo j (.inl hj)
  rw[eq]at b2 d2
  refine⟨gs2,a2,b1.trans (b2.mono fun g e=>⟨_,pi,e⟩),t1.snoc b2 ?_ c2 d2⟩
  intro c
  rw[e,List.pairwise_append]at hs
  have:=hs.2.2 i c i (by simp)
  omega
theorem oQ(h:Ok s gs){a:Nat}(ha:a<gs.length):oy (x9 (val gs a)) gs (minusIn s a) (aq (bo (val gs a))):=by
 unfold minusIn minusAll
 dsimp only
 obtain⟨gs1,a1,b1,t1⟩:=qm h ha (partsOf s [a]) [] (s,[]) (by simp) ⟨gs,h,.refl _,yG.nil⟩
 have hl:∀i∈[a],i<gs.length:=by simpa using ha
 have ha':a∈partsOf s [a]:=(aU h hl).mpr ⟨ha,a,by simp,.refl⟩
 exact⟨gs1,a1,b1,t1.lt a ha',t1.val a ha'⟩
end
def bt(x y:ae):ae:=.mk (x.left.attach.map (fun a=>bt a.1 y)++y.left.attach.map (fun b=>bt x b.1)) (x.right.attach.map (fun a=>bt a.1 y)++y.right.attach.map (fun b=>bt x b.1))
termination_by sizeOf x+sizeOf y
decreasing_by
 ·have:=ft a.2;omega
 ·have:=ft b.2;omega
 ·have:=dG a.2;omega
 ·have:=dG b.2;omega
theorem jT{α β:Type}(l:List α)(f:α->β):l.attach.map (fun a=>f a.1)=l.map f:=by simp
theorem s_(x y:ae):bt x y=.mk (x.left.map (fun a=>bt a y)++y.left.map (fun b=>bt x b)) (x.right.map (fun a=>bt a y)++y.right.map (fun b=>bt x b)):=by rw[bt,jT x.left (fun a=>bt a y),jT y.left (fun b=>bt x b),jT x.right (fun a=>bt a y),jT y.right (fun b=>bt x b)]
theorem o7(x y:ae):aq (bt x y)=aq (.mk (x.left.map (fun a=>aq (bt a y))++y.left.map (fun b=>aq (bt x b))) (x.right.map (fun a=>aq (bt a y))++y.right.map (fun b=>aq (bt x b)))):=by
 conv=>lhs;rw[s_]
 refine uM ?_ ?_<;>simp[List.map_map,Function.comp_def,qD]
def gL(a b:ae)(g:ae):Prop:=∃u v,az u a/\az v b/\g=aq (bt u v)
section
variable{s:Store}{gs:List ae}
theorem Ok.nodup(h:Ok s gs):gs.Nodup:=by rw[List.nodup_iff_pairwise_ne,List.pairwise_iff_getElem];intro i j hi hj lt e;have:=h.inj i j hi hj (by unfold val;simpa[List.getD_eq_getElem?_getD,hi,hj]using e);omega
def Am(Q:ae->Prop)(gs:List ae):Prop:=∃gs',gs'.Nodup/\dj Q gs gs'/\GROWN<gs'.length
abbrev u9(gs gs':List ae)(q:List Nat)(u:Nat)(t:Table):Prop:=yG gs gs' q (fun g=>aq (bt (val gs u) g)) t
theorem oC{x:List (Nat×Table)}{i j:Nat}{y:Table}:rowOf (x++[(i,y)]) j=if(∃z∈x,z.1=j)then rowOf x j else if i=j then y else[]:=by
 unfold rowOf;rw[List.find?_append];cases e:x.find? fun(y:Nat×Table)=>y.1==j with
 |none=>
  rw[List.find?_eq_none]at e;rw[if_neg (by rintro⟨x,hx,q⟩;exact e x hx (by simp[q]))];by_cases c:i=j
  ·simp[c]
  ·simp[c]
 |some x=>rw[if_pos ⟨x,List.mem_of_find?_eq_some e,by simpa using List.find?_some e⟩];simp
structure Rows(gs gs':List ae)(p q:List Nat)(rows:List (Nat×Table)):Prop where
 keys:rows.map (·.1)=p
 tab:∀u∈p,u9 gs gs' q u (rowOf rows u)
 row:∀x∈rows,u9 gs gs' q x.1 x.2
theorem Rows.grow{gs1 gs2:List ae}{p q:List Nat}{rows:List (Nat×Table)}(h:Rows gs gs1 p q rows){Q:ae->Prop}(g:dj Q gs1 gs2):Rows gs gs2 p q rows:=⟨h.keys,fun u hu=>(h.tab u hu).grow g,fun x hx=>(h.row x hx).grow g⟩
theorem Rows.snoc{gs1:List ae}{p q:List Nat}{rows:List (Nat×Table)}(h:Rows gs gs1 p q rows){u:Nat}{t:Table}(hu:u∉p)(ht:u9 gs gs1 q u t):Rows gs gs1 (p++[u]) q (rows++[(u,t)]):=by
 have has:∀j,(∃x∈rows,x.1=j)↔j∈p:=by intro j;rw[<-h.keys,List.mem_map]
 refine⟨by rw[List.map_append,h.keys];rfl,?_,?_⟩
 ·intro j hj;rcases List.mem_append.mp hj with hj|hj
  ·rw[oC,if_pos ((has j).mpr hj)];exact h.tab j hj
  ·simp at hj;subst hj;rw[oC,if_neg (fun q=>hu ((has j).mp q)),if_pos rfl];exact ht
 ·intro x hx;rcases List.mem_append.mp hx with hx|hx
  ·exact h.row x hx
  ·simp at hx;subst hx;exact ht
def l8(rows:List (Nat×Table))(u:Nat)(o:Option (Store×Table))(v:Nat):Option (Store×Table):=match o with
  |none=>none
  |some x=>let n:=x.1.node u;let m:=x.1.node v;let y:=form x.1 (n.left.map (fun(w:Nat)=>look (rowOf rows w) v)++m.left.map (look x.2)) (n.right.map (fun(w:Nat)=>look (rowOf rows w) v)++m.right.map (look x.2));if GROWN<y.1.nodes.size then none else some (y.1,x.2++[(v,y.2)])
def zS(gs:List ae)(Q:ae->Prop)(p q q1:List Nat)(u:Nat)(rows:List (Nat×Table)):Option (Store×Table)->Prop
 |none=>Am Q gs
 |some x=>∃gs',Ok x.1 gs'/\dj Q gs gs'/\Rows gs gs' p q rows/\u9 gs gs' q1 u x.2
theorem xW(h:Ok s gs){a b:Nat}(ha:a<gs.length)(hb:b<gs.length){p1 p2:List Nat}{u:Nat}(ep:partsOf s [a]=p1++u::p2){rows:List (Nat×Table)}:∀(r q1:List Nat)(o:Option (Store×Table)),partsOf s [b]=q1++r->zS gs (gL (val gs a) (val gs b)) p1 (partsOf s [b]) q1 u rows o->zS gs (gL (val gs a) (val gs b)) p1 (partsOf s [b]) (partsOf s [b]) u rows (r.foldl (l8 rows u) o)
 |[],q1,o,e,ih=>by rw[List.append_nil]at e;rw[<-e]at ih;exact ih
 |v::r,q1,o,e,ih=>by
  rw[List.foldl_cons];refine xW h ha hb ep r (q1++[v]) _ (by rw[e];simp) ?_;match o,ih with
  |none,ih=>exact ih
  |some x,⟨gs1,a1,g1,r1,t1⟩=>
   have hla:∀i∈[a],i<gs.length:=by simpa using ha
   have hlb:∀i∈[b],i<gs.length:=by simpa using hb
   have hsa:=bZ (s:=s) [a];have hsb:=bZ (s:=s) [b];have hu:u∈partsOf s [a]:=by rw[ep];simp
   have hv:v∈partsOf s [b]:=by rw[e];simp
   have pu:=(aU h hla).mp hu;have pv:=(aU h hlb).mp hv;have ltu:u<gs.length:=pu.1;have ltv:v<gs.length:=pv.1;have ltu1:u<gs1.length:=Nat.lt_of_lt_of_le ltu g1.le;have ltv1:v<gs1.length:=Nat.lt_of_lt_of_le ltv g1.le;have pu':az (val gs u) (val gs a):=by obtain⟨_,y,hy,q⟩:=pu;simp at hy;subst hy;exact q
   have pv':az (val gs v) (val gs b):=by obtain⟨_,y,hy,q⟩:=pv;simp at hy;subst hy;exact q
   have opu:∀j,(j∈(x.1.node u).left\/j∈(x.1.node u).right)->j∈p1/\j<gs.length:=by intro j hj;obtain⟨l1,l2⟩:=iM h hla a1 g1.any hu hj;exact⟨jO hsa ep l2 l1,by omega⟩
   have opv:∀j,(j∈(x.1.node v).left\/j∈(x.1.node v).right)->j∈q1/\j<gs.length:=by intro j hj;obtain⟨l1,l2⟩:=iM h hlb a1 g1.any hv hj;exact⟨jO hsb e l2 l1,by omega⟩
   have lu:∀j,(j∈(x.1.node u).left\/j∈(x.1.node u).right)->look (rowOf rows j) v<gs1.length/\val gs1 (look (rowOf rows j) v)=aq (bt (val gs1 j) (val gs1 v)):=by intro j hj;obtain⟨c1,c2⟩:=opu j hj;have t:=r1.tab j c1;exact⟨t.lt v hv,by rw[t.val v hv,g1.val c2,g1.val ltv]⟩
   have lv:∀j,(j∈(x.1.node v).left\/j∈(x.1.node v).right)->look x.2 j<gs1.length/\val gs1 (look x.2 j)=aq (bt (val gs1 u) (val gs1 j)):=by intro j hj;obtain⟨c1,c2⟩:=opv j hj;exact⟨t1.lt j c1,by rw[t1.val j c1,g1.val c2,g1.val ltu]⟩
   have fm:=dP a1 (l:=(x.1.node u).left.map (fun(w:Nat)=>look (rowOf rows w) v)++(x.1.node v).left.map (look x.2)) (r:=(x.1.node u).right.map (fun(w:Nat)=>look (rowOf rows w) v)++(x.1.node v).right.map (look x.2)) (by
     intro j hj;rcases List.mem_append.mp hj with hj|hj
     ·obtain⟨w,hw,rfl⟩:=List.mem_map.mp hj;exact(lu w (.inl hw)).1
     ·obtain⟨w,hw,rfl⟩:=List.mem_map.mp hj;exact(lv w (.inl hw)).1)
    (by
     intro j hj;rcases List.mem_append.mp hj with hj|hj
     ·obtain⟨w,hw,rfl⟩:=List.mem_map.mp hj;exact(lu w (.inr hw)).1
     ·obtain⟨w,hw,rfl⟩:=List.mem_map.mp hj;exact(lv w (.inr hw)).1)
   have eq:aq (.mk (((x.1.node u).left.map (fun(w:Nat)=>look (rowOf rows w) v)++(x.1.node v).left.map (look x.2)).map (val gs1)) (((x.1.node u).right.map (fun(w:Nat)=>look (rowOf rows w) v)++(x.1.node v).right.map (look x.2)).map (val gs1)))=aq (bt (val gs u) (val gs v)):=by
    rw[<-g1.val ltu,<-g1.val ltv,o7,a1.lefts ltu1,a1.rights ltu1,a1.lefts ltv1,a1.rights ltv1];simp only[List.map_append,List.map_map];congr 3
    ·exact List.map_congr_left fun j hj=>(lu j (.inl hj)).2
    ·exact List.map_congr_left fun j hj=>(lv j (.inl hj)).2
    ·exact List.map_congr_left fun j hj=>(lu j (.inr hj)).2
    ·exact List.map_congr_left fun j hj=>(lv j (.inr hj)).2
   rw[eq]at fm;obtain⟨gs2,a2,b2,c2,d2⟩:=fm;have b2':dj (gL (val gs a) (val gs b)) gs1 gs2:=b2.mono fun g e=>⟨_,_,pu',pv',e⟩
   unfold l8;dsimp only;by_cases c:GROWN<(form x.1 ((x.1.node u).left.map (fun(w:Nat)=>look (rowOf rows w) v)++(x.1.node v).left.map (look x.2)) ((x.1.node u).right.map (fun(w:Nat)=>look (rowOf rows w) v)++(x.1.node v).right.map (look x.2))).1.nodes.size
   ·rw[if_pos c];exact⟨gs2,a2.nodup,g1.trans b2',by rw[<-a2.size];exact c⟩
   ·rw[if_neg c];refine⟨gs2,a2,g1.trans b2',r1.grow b2,t1.snoc b2 ?_ c2 d2⟩;intro c;rw[e,List.pairwise_append]at hsb;have:=hsb.2.2 v c v (by simp);omega
def mz(q:List Nat)(o:Option Sums)(u:Nat):Option Sums:=match o with
 |none=>none
 |some z=>(q.foldl (l8 z.rows u) (some (z.store,[]))).map fun(x:Store×Table)=>⟨x.1,z.rows++[(u,x.2)]⟩
theorem AR(s:Store)(p q:List Nat):sumsIn s p q=p.foldl (mz q) (some ⟨s,[]⟩):=rfl
def Ac(gs:List ae)(Q:ae->Prop)(p q:List Nat):Option Sums->Prop
 |none=>Am Q gs
 |some z=>∃gs',Ok z.store gs'/\dj Q gs gs'/\Rows gs gs' p q z.rows
theorem ye(h:Ok s gs){a b:Nat}(ha:a<gs.length)(hb:b<gs.length):∀(r p1:List Nat)(o:Option Sums),partsOf s [a]=p1++r->Ac gs (gL (val gs a) (val gs b)) p1 (partsOf s [b]) o->Ac gs (gL (val gs a) (val gs b)) (partsOf s [a]) (partsOf s [b]) (r.foldl (mz (partsOf s [b])) o)
 |[],p1,o,e,ih=>by rw[List.append_nil]at e;rw[<-e]at ih;exact ih
 |u::r,p1,o,e,ih=>by
  rw[List.foldl_cons];refine ye h ha hb r (p1++[u]) _ (by rw[e];simp) ?_;match o,ih with
  |none,ih=>exact ih
  |some z,⟨gs1,a1,g1,r1⟩=>
   have:=xW h ha hb e (rows:=z.rows) (partsOf s [b]) [] (some (z.store,[])) (by simp) ⟨gs1,a1,g1,r1,yG.nil⟩;unfold mz;dsimp only;generalize (partsOf s [b]).foldl (l8 z.rows u) (some (z.store,[]))=o at this;match o,this with
   |none,i=>exact i
   |some x,⟨gs2,a2,g2,r2,t2⟩=>refine⟨gs2,a2,g2,r2.snoc ?_ t2⟩;intro c;have hsa:=bZ (s:=s) [a];rw[e,List.pairwise_append]at hsa;have:=hsa.2.2 u c u (by simp);omega
theorem xN(h:Ok s gs){a b:Nat}(ha:a<gs.length)(hb:b<gs.length):match sumIn s a b with
  |none=>Am (gL (val gs a) (val gs b)) gs
  |some x=>∃gs',Ok x.1 gs'/\dj (gL (val gs a) (val gs b)) gs gs'/\x.2.1<gs'.length/\val gs' x.2.1=aq (bt (val gs a) (val gs b))/\(∀i∈x.2.2,i<gs'.length)/\∀g,(∃i∈x.2.2,val gs' i=g)↔gL (val gs a) (val gs b) g:=by
 have o:=ye h ha hb (partsOf s [a]) [] (some ⟨s,[]⟩) (by simp) ⟨gs,h,.refl _,⟨rfl,by simp,by simp⟩⟩;unfold sumIn;rw[AR];generalize (partsOf s [a]).foldl (mz (partsOf s [b])) (some ⟨s,[]⟩)=o' at o;have hla:∀i∈[a],i<gs.length:=by simpa using ha
 have hlb:∀i∈[b],i<gs.length:=by simpa using hb
 have ha':a∈partsOf s [a]:=(aU h hla).mpr ⟨ha,a,by simp,.refl⟩;have hb':b∈partsOf s [b]:=(aU h hlb).mpr ⟨hb,b,by simp,.refl⟩;match o',o with
 |none,o=>exact o
 |some z,⟨gs1,a1,g1,r1⟩=>
  have t:=r1.tab a ha';have keys:∀x∈z.rows,x.1∈partsOf s [a]:=by intro x hx;rw[<-r1.keys];exact List.mem_map_of_mem hx
  have ent:∀x∈z.rows,∀y∈x.2,y.1∈partsOf s [b]/\y.2=look x.2 y.1:=by
   intro x hx y hy;have tx:=r1.row x hx;have ky:y.1∈partsOf s [b]:=by rw[<-tx.keys];exact List.mem_map_of_mem hy
   refine⟨ky,?_⟩;have nd:(x.2.map (·.1)).Nodup:=by rw[tx.keys];exact(bZ (s:=s) [b]).imp (fun a=>Nat.ne_of_lt a)
   unfold look;cases e:x.2.find? fun(z:Nat×Nat)=>z.1==y.1 with
   |none=>exact absurd (List.find?_eq_none.mp e y hy) (by simp)
   |some w=>
    have h1:=List.mem_of_find?_eq_some e;have h2:w.1=y.1:=by simpa using List.find?_some e
    dsimp only;obtain⟨i,hi,rfl⟩:=List.getElem_of_mem hy;obtain⟨j,hj,rfl⟩:=List.getElem_of_mem h1;have:=pD nd (i:=j) (j:=i) (by simpa using hj) (by simpa using hi) (by simpa using h2);subst this;rfl
  refine⟨gs1,a1,g1,t.lt b hb',t.val b hb',?_,?_⟩
  ·intro i hi;rw[List.mem_flatMap]at hi;obtain⟨x,hx,hi⟩:=hi;obtain⟨y,hy,rfl⟩:=List.mem_map.mp hi;obtain⟨k1,k2⟩:=ent x hx y hy;rw[k2];exact(r1.row x hx).lt _ k1
  ·intro g;constructor
   ·rintro⟨i,hi,rfl⟩;rw[List.mem_flatMap]at hi;obtain⟨x,hx,hi⟩:=hi;obtain⟨y,hy,rfl⟩:=List.mem_map.mp hi;obtain⟨k1,k2⟩:=ent x hx y hy;obtain⟨_,u,hu,qu⟩:=(aU h hla).mp (keys x hx);obtain⟨_,v,hv,qv⟩:=(aU h hlb).mp k1;simp at hu hv;subst hu;subst hv;exact⟨_,_,qu,qv,by rw[k2];exact(r1.row x hx).val _ k1⟩
   ·rintro⟨u,v,pu,pv,rfl⟩;obtain⟨i,hi,_,rfl⟩:=fA h (S:=fun _=>True) (fun _ _ _=>⟨fun _ _=>trivial,fun _ _=>trivial⟩) pu a ha trivial rfl;obtain⟨j,hj,_,rfl⟩:=fA h (S:=fun _=>True) (fun _ _ _=>⟨fun _ _=>trivial,fun _ _=>trivial⟩) pv b hb trivial rfl;have mi:i∈partsOf s [a]:=(aU h hla).mpr ⟨by omega,a,by simp,pu⟩;have mj:j∈partsOf s [b]:=(aU h hlb).mpr ⟨by omega,b,by simp,pv⟩;have mi':=mi;rw[<-r1.keys,List.mem_map]at mi;obtain⟨x,hx,rfl⟩:=mi;have tx:=r1.row x hx;have mj':=mj;rw[<-tx.keys,List.mem_map]at mj;obtain⟨y,hy,rfl⟩:=mj;refine⟨y.2,List.mem_flatMap.mpr ⟨x,hx,List.mem_map_of_mem hy⟩,?_⟩;rw[(ent x hx y hy).2];exact tx.val _ mj'
end
open Classical in
mutual
noncomputable def cK(seen:List ae):ae->List ae
 |.mk l r=>if ae.mk l r∈seen then seen else bg (bg (seen++[.mk l r]) l) r
noncomputable def bg(seen:List ae):List ae->List ae
 |[]=>seen
 |x::l=>bg (cK seen x) l
end
theorem pF{seen:List ae}{g:ae}(h:g∈seen):cK seen g=seen:=by cases g;rw[cK,if_pos h]
theorem jC{seen:List ae}{g:ae}(h:g∉seen):cK seen g=bg (bg (seen++[g]) g.left) g.right:=by cases g;rw[cK,if_neg h];rfl
theorem fT:∀(l m seen:List ae),bg seen (l++m)=bg (bg seen l) m
 |[],m,seen=>by rw[List.nil_append,bg]
 |x::l,m,seen=>by rw[List.cons_append,bg,bg,fT l m]
structure qZ(seen out:List ae)(S:ae->Prop):Prop where
 more:∃t,out=seen++t
 nodup:out.Nodup
 sound:∀x∈out,x∈seen\/S x
 closed:∀x∈out,x∉seen->(∀y∈x.left,y∈out)/\∀y∈x.right,y∈out
theorem gU:∀(l seen:List ae),(∀x∈l,∀seen:List ae,seen.Nodup->qZ seen (cK seen x) (fun p=>az p x)/\x∈cK seen x)->seen.Nodup->qZ seen (bg seen l) (fun p=>∃x∈l,az p x)/\∀x∈l,x∈bg seen l
 |[],seen,_,hn=>by rw[bg];exact⟨⟨⟨[],by simp⟩,hn,fun x hx=>.inl hx,fun x hx c=>absurd hx c⟩,by simp⟩
 |x::l,seen,h,hn=>by
  rw[bg];obtain⟨v1,m1⟩:=h x (by simp) seen hn;obtain⟨v2,m2⟩:=gU l (cK seen x) (fun y hy=>h y (by simp[hy])) v1.nodup;obtain⟨t1,e1⟩:=v1.more;obtain⟨t2,e2⟩:=v2.more;have sub:∀y∈cK seen x,y∈bg (cK seen x) l:=by intro y hy;rw[e2];simp[hy]
  refine⟨⟨⟨t1++t2,by rw[e2,e1];simp⟩,v2.nodup,?_,?_⟩,?_⟩
  ·intro y hy;rcases v2.sound y hy with c|⟨z,hz,p⟩
   ·rcases v1.sound y c with c|c
    ·exact .inl c
    ·exact .inr ⟨x,by simp,c⟩
   ·exact .inr ⟨z,by simp[hz],p⟩
  ·intro y hy c;by_cases d:y∈cK seen x
   ·obtain⟨a,b⟩:=v1.closed y d c;exact⟨fun z hz=>sub z (a z hz),fun z hz=>sub z (b z hz)⟩
   ·exact v2.closed y hy d
  ·intro y hy;rcases List.mem_cons.mp hy with rfl|hy
   ·exact sub _ m1
   ·exact m2 y hy
theorem mJ:∀(g:ae)(seen:List ae),seen.Nodup->qZ seen (cK seen g) (fun p=>az p g)/\g∈cK seen g:=by
 apply ae.ind (P:=fun g=>∀seen:List ae,seen.Nodup->qZ seen (cK seen g) (fun p=>az p g)/\g∈cK seen g);intro g hl hr seen hn;by_cases c:g∈seen
 ·rw[pF c];exact⟨⟨⟨[],by simp⟩,hn,fun x hx=>.inl hx,fun x hx d=>absurd hx d⟩,c⟩
 ·rw[jC c];have hn':(seen++[g]).Nodup:=by rw[List.nodup_append];exact⟨hn,by simp,fun a ha b hb e=>by simp at hb;subst hb;subst e;exact c ha⟩
  obtain⟨v1,m1⟩:=gU g.left (seen++[g]) hl hn';obtain⟨v2,m2⟩:=gU g.right (bg (seen++[g]) g.left) hr v1.nodup;obtain⟨t1,e1⟩:=v1.more;obtain⟨t2,e2⟩:=v2.more;have sub1:∀y∈seen++[g],y∈bg (seen++[g]) g.left:=by intro y hy;rw[e1];exact List.mem_append_left _ hy
  have sub2:∀y∈bg (seen++[g]) g.left,y∈bg (bg (seen++[g]) g.left) g.right:=by intro y hy;rw[e2];exact List.mem_append_left _ hy
  refine⟨⟨⟨g::(t1++t2),by rw[e2,e1];simp⟩,v2.nodup,?_,?_⟩,sub2 _ (sub1 _ (by simp))⟩
  ·intro y hy;rcases v2.sound y hy with d|⟨z,hz,p⟩
   ·rcases v1.sound y d with d|⟨z,hz,p⟩
    ·rcases List.mem_append.mp d with d|d
     ·exact .inl d
     ·simp at d;subst d;exact .inr .refl
    ·exact .inr (.left _ _ hz p)
   ·exact .inr (.right _ _ hz p)
  ·intro y hy d;by_cases k:y∈bg (seen++[g]) g.left
   ·by_cases k':y∈seen++[g]
    ·rcases List.mem_append.mp k' with e|e
     ·exact absurd e d
     ·simp at e;subst e;exact⟨fun z hz=>sub2 z (m1 z hz),m2⟩
    ·obtain⟨a,b⟩:=v1.closed y k k';exact⟨fun z hz=>sub2 z (a z hz),fun z hz=>sub2 z (b z hz)⟩
   ·exact v2.closed y hy k
noncomputable def ao(g:ae):List ae:=cK [] g
theorem fy(g:ae):dQ (ao g) (fun x=>x=g):=by
 obtain⟨v,m⟩:=mJ g [] (by simp);refine⟨v.nodup,fun p=>⟨fun hp=>⟨g,rfl,?_⟩,?_⟩⟩
 ·rcases v.sound p hp with c|c
  ·simp at c
  ·exact c
 ·rintro⟨y,e,hp⟩;subst e
  have:∀x,az p x->x∈cK [] y->p∈cK [] y:=by
   intro x hx;induction hx with
   |refl=>exact id
   |left y x hy _ ih=>intro hx;exact ih ((v.closed x hx (by simp)).1 y hy)
   |right y x hy _ ih=>intro hx;exact ih ((v.closed x hx (by simp)).2 y hy)
  exact this _ hp m
theorem aP{g p:ae}:p∈ao g↔az p g:=by rw[(fy g).2 p];exact⟨fun⟨_,e,h⟩=>by subst e;exact h,fun h=>⟨g,rfl,h⟩⟩
theorem k8(g:ae):∃t,ao g=g::t:=by unfold ao;rw[jC (by simp)];obtain⟨v1,_⟩:=gU g.left ([]++[g]) (fun x _=>mJ x) (by simp);obtain⟨v2,_⟩:=gU g.right _ (fun x _=>mJ x) v1.nodup;obtain⟨t1,e1⟩:=v1.more;obtain⟨t2,e2⟩:=v2.more;exact⟨t1++t2,by rw[e2,e1];simp⟩
open Classical in
noncomputable def bW(P:List ae)(g:ae):Nat:=(P.findIdx? fun x=>decide (x=g)).getD 0
theorem cU{P:List ae}{g:ae}(h:g∈P):P[bW P g]?=some g/\bW P g<P.length:=by
 unfold bW;cases e:P.findIdx? fun x=>@decide (x=g) (Classical.propDecidable _)with
 |none=>rw[List.findIdx?_eq_none_iff]at e;have:=e g h;simp at this
 |some k=>
  rw[List.findIdx?_eq_some_iff_getElem]at e;obtain⟨hk,q,_⟩:=e;have q:P[k]=g:=by simpa using q
  exact⟨by rw[Option.getD_some,List.getElem?_eq_getElem hk,q],hk⟩
noncomputable def bA(P:List ae)(x:ae):Bytes:=le2 x.left.length++(le2 x.right.length++(x.left++x.right).flatMap fun y=>le2 (bW P y))
noncomputable def cD(g:ae):Bytes:=MARK::(le2 (ao g).length++(ao g).flatMap (bA (ao g)))
section
variable{s:Store}{gs:List ae}
theorem rG{f:Nat}(ih:∀(seen:List Nat) (i:Nat),i<f->i<gs.length->(∀j∈seen,j<gs.length)->(∀j∈visit s f seen i,j<gs.length)/\(visit s f seen i).map (val gs)=cK (seen.map (val gs)) (val gs i)) :∀(l seen:List Nat),(∀i∈l,i<f/\i<gs.length)->(∀j∈seen,j<gs.length)->(∀j∈l.foldl (visit s f) seen,j<gs.length)/\(l.foldl (visit s f) seen).map (val gs)=bg (seen.map (val gs)) (l.map (val gs))
 |[],seen,_,hs=>⟨hs,by simp[bg]⟩
 |x::l,seen,hl,hs=>by obtain⟨a,b⟩:=ih seen x (hl x (by simp)).1 (hl x (by simp)).2 hs;obtain⟨c,d⟩:=rG ih l (visit s f seen x) (fun i hi=>hl i (by simp[hi])) a;refine⟨c,?_⟩;rw[List.foldl_cons,d,b,List.map_cons,bg]
theorem xI(h:Ok s gs):∀(f:Nat)(seen:List Nat)(i:Nat),i<f->i<gs.length->(∀j∈seen,j<gs.length)->(∀j∈visit s f seen i,j<gs.length)/\(visit s f seen i).map (val gs)=cK (seen.map (val gs)) (val gs i)
 |0,_,_,hi,_,_=>by omega
 |f+1,seen,i,hi,hil,hs=>by
  rw[visit]
  have mem:seen.contains i=true↔val gs i∈seen.map (val gs):=by
   rw[List.contains_iff_mem,List.mem_map];constructor
   ·intro q;exact⟨i,q,rfl⟩
   ·rintro⟨j,hj,e⟩;rw[<-h.inj j i (hs j hj) hil e];exact hj
  by_cases c:seen.contains i=true
  ·rw[if_pos c,pF (mem.mp c)];exact⟨hs,rfl⟩
  ·rw[if_neg c,jC (fun q=>c (mem.mpr q))]
   obtain⟨a,b⟩:=rG (gs:=gs) (xI h f) ((s.node i).left++(s.node i).right) (seen++[i]) (by
     intro j hj;have:j<i:=(List.mem_append.mp hj).elim (h.left i hil j) (h.right i hil j);omega)
    (by
     intro j hj;rcases List.mem_append.mp hj with hj|hj
     ·exact hs j hj
     ·simp at hj;subst hj;exact hil)
   refine⟨a,?_⟩;rw[b,List.map_append,List.map_append,fT,h.lefts hil,h.rights hil];rfl
theorem Cd(h:Ok s gs){p:List Nat}(hp:∀i∈p,i<gs.length){j:Nat}(hj:j<gs.length):placeIn p j=bW (p.map (val gs)) (val gs j):=by
 unfold placeIn bW;rw[List.findIdx?_map];congr 1
 have:∀(l:List Nat),(∀i∈l,i<gs.length)->l.findIdx? (fun j'=>j'==j)=l.findIdx? ((fun x=>@decide (x=val gs j) (Classical.propDecidable _))∘val gs):=by
  intro l;induction l with
  |nil=>intro _;rfl
  |cons x l ih=>
   intro hl;rw[List.findIdx?_cons,List.findIdx?_cons,ih (fun i hi=>hl i (by simp[hi]))]
   have e:(x==j)=((fun x=>@decide (x=val gs j) (Classical.propDecidable _))∘val gs) x:=by
    by_cases c:x=j
    ·subst c;simp
    ·have:¬val gs x=val gs j:=fun q=>c (h.inj x j (hl x (by simp)) hj q);simp[c,this]
   rw[e]
 exact this p hp
theorem jG(h:Ok s gs){a:Nat}(ha:a<gs.length):written s a=cD (val gs a):=by unfold written cD ao;dsimp only;obtain⟨p1,p2⟩:=xI h (s.nodes.size+1) [] a (by rw[h.size];omega) ha (by simp);rw[List.map_nil]at p2;rw[<-p2];generalize visit s (s.nodes.size+1) [] a=p at *;rw[List.length_map,List.flatMap_map];congr 2;rw[List.flatMap_def,List.flatMap_def];congr 1;refine List.map_congr_left fun i hi=>?_;have hil:=p1 i hi;unfold bA;rw[h.lefts hil,h.rights hil,List.length_map,List.length_map,<-List.map_append,List.flatMap_map];congr 2;rw[List.flatMap_def,List.flatMap_def];congr 1;refine List.map_congr_left fun j hj=>?_;have:j<i:=(List.mem_append.mp hj).elim (h.left i hil j) (h.right i hil j);rw[Cd h p1 (by omega)]
end
def bT(b:Bytes)(g:ae):Prop:=bc g/\cD g=b/\(ao g).length<=96
theorem uG{b rest:Bytes}{p:Nat}{x:UInt8}(h:b.drop p=x::rest):b.getD p 0=x/\b.drop (p+1)=rest/\p<b.length:=by
 have lt:p<b.length:=by apply Classical.byContradiction;intro c;rw[List.drop_eq_nil_of_le (by omega)]at h;cases h
 refine⟨?_,?_,lt⟩
 ·rw[List.drop_eq_getElem_cons lt]at h;simp[List.getD_eq_getElem?_getD,lt];exact(List.cons.inj h).1
 ·rw[List.drop_eq_getElem_cons lt]at h;exact(List.cons.inj h).2
theorem lV{b rest:Bytes}{p v:Nat}(h:b.drop p=le2 v++rest):numAt b p=v%65536/\b.drop (p+2)=rest/\p+2<=b.length:=by unfold le2 at h;simp only[List.cons_append,List.nil_append]at h;obtain⟨a1,a2,a3⟩:=uG h;obtain⟨b1,b2,b3⟩:=uG a2;refine⟨?_,b2,by omega⟩;unfold numAt;rw[a1,b1];simp only[UInt8.toNat_ofNat'];omega
theorem nU{b rest:Bytes}:∀(vs:List Nat)(p:Nat),(∀v∈vs,v<65536)->b.drop p=vs.flatMap le2++rest->p<=b.length->numsAt b p vs.length=vs/\b.drop (p+2*vs.length)=rest/\p+2*vs.length<=b.length
 |[],p,_,h,hp=>by simp[numsAt]at *;exact⟨h,hp⟩
 |v::vs,p,hv,h,hp=>by
  rw[List.flatMap_cons,List.append_assoc]at h;obtain⟨a1,a2,a3⟩:=lV h;obtain⟨b1,b2,b3⟩:=nU vs (p+2) (fun u hu=>hv u (by simp[hu])) a2 a3;refine⟨?_,?_,?_⟩
  ·unfold numsAt at *;rw[List.length_cons,List.range_succ_eq_map,List.map_cons,List.map_map];have hv':=hv v (by simp);congr 1
   ·simp only[Nat.mul_zero,Nat.add_zero];rw[a1];omega
   ·rw[<-b1];rw[b1];conv=>rhs;rw[<-b1]
    refine List.map_congr_left fun i _=>?_;simp only[Function.comp_apply];congr 1;omega
  ·rw[List.length_cons,show p+2*(vs.length+1)=p+2+2*vs.length by omega];exact b2
  ·rw[List.length_cons];omega
noncomputable def jF(P:List ae)(x:ae):List Nat×List Nat:=(x.left.map (bW P),x.right.map (bW P))
theorem p_{b:Bytes}{P:List ae}(hP:P.length<=96)(hc:∀x∈P,∀y,(y∈x.left\/y∈x.right)->y∈P) (hs:∀x∈P,x.left.length<=96/\x.right.length<=96):∀(Q:List ae)(p:Nat),(∀x∈Q,x∈P)->b.drop p=Q.flatMap (bA P)->p<=b.length->rowsAt b Q.length p=some (Q.map (jF P))
 |[],p,_,h,hp=>by rw[List.flatMap_nil]at h;have:=List.drop_eq_nil_iff.mp h;rw[List.length_nil,rowsAt,if_pos (by omega)];rfl
 |x::Q,p,hQ,h,hp=>by
  have hx:=hQ x (by simp);obtain⟨s1,s2⟩:=hs x hx;rw[List.flatMap_cons]at h;unfold bA at h;rw[List.append_assoc]at h;obtain⟨a1,a2,a3⟩:=lV h;rw[List.append_assoc]at a2;obtain⟨b1,b2,b3⟩:=lV a2;have fm:∀l:List ae,l.flatMap (fun y=>le2 (bW P y))=(l.map (bW P)).flatMap le2:=by intro l;rw[List.flatMap_map]
  rw[List.flatMap_append,fm,fm,List.append_assoc]at b2;have pl:∀y,(y∈x.left\/y∈x.right)->bW P y<65536:=fun y hy=>by have:=(cU (hc x hx y hy)).2;omega
  obtain⟨c1,c2,c3⟩:=nU (x.left.map (bW P)) (p+2+2) (by intro v hv;obtain⟨y,hy,rfl⟩:=List.mem_map.mp hv;exact pl y (.inl hy)) b2 (by omega);obtain⟨d1,d2,d3⟩:=nU (x.right.map (bW P)) _ (by intro v hv;obtain⟨y,hy,rfl⟩:=List.mem_map.mp hv;exact pl y (.inr hy)) c2 c3;rw[List.length_map]at c1 c2 c3 d1 d2 d3;rw[List.length_map]at d1 d2 d3;have e1:numAt b p=x.left.length:=by omega
  have e2:numAt b (p+2)=x.right.length:=by omega
  rw[List.length_cons,rowsAt,e1,e2,if_neg (by omega)];rw[show p+4+2*(x.left.length+x.right.length)=p+2+2+2*x.left.length+2*x.right.length by omega];rw[p_ hP hc hs Q _ (fun y hy=>hQ y (by simp[hy])) d2 (by omega)];simp only[Option.map_some,List.map_cons];rw[show p+4=p+2+2 by omega,c1,d1];rfl
theorem nt{b:Bytes}:∀(n p:Nat)(rows:List (List Nat×List Nat)),rowsAt b n p=some rows->rows.length=n
 |0,p,rows,h=>by
  rw[rowsAt]at h;split at h
  ·cases h;rfl
  ·cases h
 |n+1,p,rows,h=>by
  rw[rowsAt]at h;split at h
  ·cases h
  ·rw[Option.map_eq_some_iff]at h;obtain⟨l,e,rfl⟩:=h;rw[List.length_cons,nt n _ l e]
structure i7(gs:List ae)(rows:List (List Nat×List Nat))(C:Nat->ae->Prop)(x:Store×Table)(gs':List ae):Prop where
 ok:Ok x.1 gs'
 grow:dj yE gs gs'
 len:gs'.length<=gs.length+x.2.length
 ent:∀e∈x.2,e.1<rows.length/\e.2<gs'.length/\C e.1 (val gs' e.2)
 nodup:(x.2.map (·.1)).Nodup
def fX(x:Store×Table)(r:(List Nat×List Nat)×Nat):Store×Table:=if x.2.any (fun(y:Nat×Nat)=>y.1==r.2)=true then x else if ready x.2 (r.1.1++r.1.2)=true then(let y:=form x.1 (r.1.1.map (look x.2)) (r.1.2.map (look x.2))
 (y.1,x.2++[(r.2,y.2)]))else x
theorem vj(rows:List (List Nat×List Nat))(x:Store×Table):madeRound rows x=rows.zipIdx.reverse.foldl fX x:=rfl
def iu(t:Table)(i:Nat):Prop:=∃e∈t,e.1=i
theorem qX{t:Table}{i:Nat}:t.any (fun(y:Nat×Nat)=>y.1==i)=true↔iu t i:=by simp[List.any_eq_true,iu]
theorem pK{t:Table}{l:List Nat}:ready t l=true↔∀i∈l,iu t i:=by unfold ready;rw[List.all_eq_true];exact⟨fun h i hi=>qX.mp (h i hi),fun h i hi=>qX.mpr (h i hi)⟩
theorem rL{t:Table}{i:Nat}(h:iu t i):(i,look t i)∈t:=by
 obtain⟨e,he,rfl⟩:=h;unfold look;cases q:t.find? fun(y:Nat×Nat)=>y.1==e.1 with
 |none=>exact absurd (List.find?_eq_none.mp q e he) (by simp)
 |some w=>
  have h1:=List.mem_of_find?_eq_some q;have h2:w.1=e.1:=by simpa using List.find?_some q
  dsimp only;rw[<-h2];exact h1
section
variable{gs:List ae}{rows:List (List Nat×List Nat)}{C:Nat->ae->Prop}
theorem yA(hC:∀i l r,rows[i]?=some (l,r)->∀f:Nat->ae,(∀j,j∈l\/j∈r->C j (f j))->C i (aq (.mk (l.map f) (r.map f)))) {x:Store×Table} {r:(List Nat×List Nat)×Nat} (hr:rows[r.2]?=some r.1) (hx:∃gs',i7 gs rows C x gs') :(∃gs',i7 gs rows C (fX x r) gs')/\(∃t,(fX x r).2=x.2++t)/\(ready x.2 (r.1.1++r.1.2)=true->iu (fX x r).2 r.2):=by
 unfold fX;by_cases c:x.2.any (fun(y:Nat×Nat)=>y.1==r.2)=true
 ·rw[if_pos c];exact⟨hx,⟨[],by simp⟩,fun _=>qX.mp c⟩
 ·rw[if_neg c];by_cases d:ready x.2 (r.1.1++r.1.2)=true
  ·rw[if_pos d];have d':=pK.mp d;obtain⟨gs1,m⟩:=hx;have lk:∀j,j∈r.1.1\/j∈r.1.2->look x.2 j<gs1.length/\C j (val gs1 (look x.2 j)):=by intro j hj;have:=m.ent _ (rL (d' j (List.mem_append.mpr hj)));exact⟨this.2.1,this.2.2⟩
   obtain⟨gs2,a,b,c2,e⟩:=dP m.ok (l:=r.1.1.map (look x.2)) (r:=r.1.2.map (look x.2)) (by intro j hj;obtain⟨u,hu,rfl⟩:=List.mem_map.mp hj;exact(lk u (.inl hu)).1) (by intro j hj;obtain⟨u,hu,rfl⟩:=List.mem_map.mp hj;exact(lk u (.inr hu)).1);have rl:r.2<rows.length:=by apply Classical.byContradiction;intro q;rw[List.getElem?_eq_none (by omega)]at hr;cases hr
   have Ce:gs2.length<=gs1.length+1:=by
    obtain⟨g,hg⟩:=b;have nd:=a.nodup;rw[hg.1]at nd;rw[hg.1,List.length_append]
    have:g.length<=1:=by
     match g,hg.2,(List.nodup_append.mp nd).2.1 with
     |[],_,_=>simp
     |[_],_,_=>simp
     |u::v::_,q,n=>have:=q u (by simp);have:=q v (by simp);simp_all
    omega
   dsimp only;refine⟨⟨gs2,a,m.grow.trans b.any,?_,?_,?_⟩,⟨_,rfl⟩,fun _=>⟨(r.2,(form x.1 (r.1.1.map (look x.2)) (r.1.2.map (look x.2))).2),List.mem_append_right _ (by simp),rfl⟩⟩
   ·have:=m.len;simp only[List.length_append,List.length_cons,List.length_nil];omega
   ·intro y hy;rcases List.mem_append.mp hy with hy|hy
    ·obtain⟨q1,q2,q3⟩:=m.ent y hy;exact⟨q1,Nat.lt_of_lt_of_le q2 b.le,by rw[b.val q2];exact q3⟩
    ·simp at hy;subst hy;refine⟨rl,c2,?_⟩;dsimp only;rw[e,List.map_map,List.map_map];exact hC r.2 r.1.1 r.1.2 hr _ (fun j hj=>(lk j hj).2)
   ·rw[List.map_append,List.nodup_append];refine⟨m.nodup,by simp,?_⟩;intro u hu v hv q;simp at hv;subst hv;subst q;obtain⟨e,he,q⟩:=List.mem_map.mp hu;exact c (qX.mpr ⟨e,he,q⟩)
  ·rw[if_neg d];exact⟨hx,⟨[],by simp⟩,fun q=>absurd q d⟩
theorem zG{t u:Table}{l:List Nat}(h:ready t l=true):ready (t++u) l=true:=by rw[pK]at *;intro i hi;obtain⟨e,he,q⟩:=h i hi;exact⟨e,List.mem_append_left _ he,q⟩
theorem qF(hC:∀i l r,rows[i]?=some (l,r)->∀f:Nat->ae,(∀j,j∈l\/j∈r->C j (f j))->C i (aq (.mk (l.map f) (r.map f)))):∀(rs:List ((List Nat×List Nat)×Nat))(x:Store×Table),(∀r∈rs,rows[r.2]?=some r.1)->(∃gs',i7 gs rows C x gs')->(∃gs',i7 gs rows C (rs.foldl fX x) gs')/\(∃t,(rs.foldl fX x).2=x.2++t)/\∀r∈rs,ready x.2 (r.1.1++r.1.2)=true->iu (rs.foldl fX x).2 r.2
 |[],x,_,hx=>⟨hx,⟨[],by simp⟩,by simp⟩
 |r::rs,x,hr,hx=>by
  rw[List.foldl_cons];obtain⟨a,⟨t,b⟩,c⟩:=yA hC (hr r (by simp)) hx;obtain⟨a',⟨t',b'⟩,c'⟩:=qF hC rs _ (fun q hq=>hr q (by simp[hq])) a;refine⟨a',⟨t++t',by rw[b',b];simp⟩,fun q hq k=>?_⟩;rcases List.mem_cons.mp hq with rfl|hq
  ·obtain⟨e,he,z⟩:=c k;exact⟨e,by rw[b'];exact List.mem_append_left _ he,z⟩
  ·exact c' q hq (by rw[b];exact zG k)
theorem j6{r:(List Nat×List Nat)×Nat}:r∈rows.zipIdx.reverse↔rows[r.2]?=some r.1:=by rw[List.mem_reverse,List.mem_zipIdx_iff_getElem?]
theorem vc(hC:∀i l r,rows[i]?=some (l,r)->∀f:Nat->ae,(∀j,j∈l\/j∈r->C j (f j))->C i (aq (.mk (l.map f) (r.map f)))) {x:Store×Table} (hx:∃gs',i7 gs rows C x gs') :(∃gs',i7 gs rows C (madeRound rows x) gs')/\(∃t,(madeRound rows x).2=x.2++t)/\∀i l r,rows[i]?=some (l,r)->ready x.2 (l++r)=true->iu (madeRound rows x).2 i:=by rw[vj];obtain⟨a,b,c⟩:=qF hC rows.zipIdx.reverse x (fun r hr=>j6.mp hr) hx;exact⟨a,b,fun i l r h k=>c ((l,r),i) (j6.mpr h) k⟩
theorem i7.le{x:Store×Table}{gs':List ae}(h:i7 gs rows C x gs'):x.2.length<=rows.length:=by have:=aC h.nodup (P:=List.range rows.length) (by intro i hi;obtain⟨e,he,rfl⟩:=List.mem_map.mp hi;exact List.mem_range.mpr (h.ent e he).1);simpa using this
theorem i8(hC:∀i l r,rows[i]?=some (l,r)->∀f:Nat->ae,(∀j,j∈l\/j∈r->C j (f j))->C i (aq (.mk (l.map f) (r.map f)))):∀(n:Nat)(x:Store×Table),(∃gs',i7 gs rows C x gs')->(∃gs',i7 gs rows C (madeRounds rows n x) gs')/\(rows.length<=n+x.2.length->∀i l r,rows[i]?=some (l,r)->(rows.length<=(madeRounds rows n x).2.length\/(ready (madeRounds rows n x).2 (l++r)=true->iu (madeRounds rows n x).2 i)))
 |0,x,hx=>⟨hx,fun h i l r _=>.inl (by rw[madeRounds];omega)⟩
 |n+1,x,hx=>by
  rw[madeRounds];obtain⟨a,⟨t,b⟩,c⟩:=vc hC hx;by_cases k:(madeRound rows x).2.length=x.2.length
  ·rw[if_pos k];refine⟨hx,fun h i l r e=>.inr fun q=>?_⟩;have:(madeRound rows x).2=x.2:=by rw[b,List.length_append]at k;have:t=[]:=List.length_eq_zero_iff.mp (by omega);rw[b,this,List.append_nil]
   rw[<-this];exact c i l r e q
  ·rw[if_neg k];obtain⟨a',c'⟩:=i8 hC n _ a;refine⟨a',fun h=>c' ?_⟩;rw[b,List.length_append]at *;have:t.length≠0:=by omega
   omega
end
section
variable{s:Store}{gs:List ae}
theorem jA(g:ae):(cD g).headD 0=MARK/\3<=(cD g).length/\numAt (cD g) 1=(ao g).length%65536/\(cD g).drop 3=(ao g).flatMap (bA (ao g)):=by have h1:(cD g).drop 1=le2 (ao g).length++(ao g).flatMap (bA (ao g)):=rfl;obtain⟨a,b,c⟩:=lV h1;exact⟨rfl,by omega,a,b⟩
theorem vf(h:Ok s gs)(hz:0<gs.length)(hlen:gs.length<=10000){b:Bytes}{x:Store×Nat}(e:readIn s b=some x):∃g,oy yE gs x g/\bT b g:=by
 unfold readIn at e;split at e
 ·cases e
 ·rename_i c;split at e
  ·cases e
  ·rename_i rows hrows;dsimp only at e;split at e
   ·cases e
   ·split at e
    ·rename_i w;have w:written (madeRounds rows rows.length (s,[])).1 (look (madeRounds rows rows.length (s,[])).2 0)=b:=by simpa using w
     have hn:=nt _ _ _ hrows;obtain⟨⟨gs1,m⟩,_⟩:=i8 (gs:=gs) (rows:=rows) (C:=fun _ _=>True) (fun _ _ _ _ _ _=>trivial) rows.length (s,[]) ⟨gs,h,.refl _,by simp,by simp,by simp⟩;have le:=m.le;generalize madeRounds rows rows.length (s,[])=y at *
     have lk:look y.2 0<gs1.length:=by
      by_cases k:iu y.2 0
      ·exact(m.ent _ (rL k)).2.1
      ·have:look y.2 0=0:=by
        unfold look;cases q:y.2.find? fun(y:Nat×Nat)=>y.1==0 with
        |none=>rfl
        |some w=>exact absurd ⟨w,List.mem_of_find?_eq_some q,by simpa using List.find?_some q⟩ k
       rw[this];exact Nat.lt_of_lt_of_le hz m.grow.le
     cases e;refine⟨val gs1 (look y.2 0),⟨gs1,m.ok,m.grow,lk,rfl⟩,m.ok.least _ lk,by rw[<-jG m.ok lk];exact w,?_⟩;rw[jG m.ok lk]at w;obtain⟨_,_,q,_⟩:=jA (val gs1 (look y.2 0));rw[w]at q;have c3:¬PARTS<numAt b 1:=fun k=>c (.inr (.inr k))
     have pl:(ao (val gs1 (look y.2 0))).length<=gs1.length:=by
      refine aC (fy _).1 fun p hp=>?_;obtain⟨j,hj,_,ej⟩:=fA m.ok (S:=fun _=>True) (fun _ _ _=>⟨fun _ _=>trivial,fun _ _=>trivial⟩) (aP.mp hp) _ lk trivial rfl;rw[<-ej];have:j<gs1.length:=by omega
      unfold val;simp[List.getD_eq_getElem?_getD,this]
     have ml:=m.len;unfold PARTS at c3;omega
    ·cases e
theorem gn(h:Ok s gs){b:Bytes}{g:ae}(hg:bT b g):∃x,readIn s b=some x/\oy yE gs x g:=by
 obtain⟨lg,rfl,l96⟩:=hg;obtain⟨s1,s2,s3,s4⟩:=jA g;have hc:∀x∈ao g,∀y,(y∈x.left\/y∈x.right)->y∈ao g:=by intro x hx y hy;rw[aP]at *;exact az.trans (hy.elim (fun q=>.left _ _ q .refl) (fun q=>.right _ _ q .refl)) hx
 have lp:∀x∈ao g,bc x:=fun x hx=>(aP.mp hx).least lg
 have nd:∀x,bc x->x.left.Nodup/\x.right.Nodup:=by
  intro x hx;cases hx with
  |mk _ _ _ _ _ _ _ sl sr=>have ne:∀{a b:ae},before a b->a≠b:=fun{a b}q e=>bE a (by rw[<-e]at q;exact q);exact⟨sl.imp ne,sr.imp ne⟩
 have hs:∀x∈ao g,x.left.length<=96/\x.right.length<=96:=by intro x hx;obtain⟨n1,n2⟩:=nd x (lp x hx);exact⟨Nat.le_trans (aC n1 fun y hy=>hc x hx y (.inl hy)) l96,Nat.le_trans (aC n2 fun y hy=>hc x hx y (.inr hy)) l96⟩
 have hrows:=p_ l96 hc hs (ao g) 3 (fun _ q=>q) s4 s2;have hn:numAt (cD g) 1=(ao g).length:=by omega
 obtain⟨t,ht⟩:=k8 g;have pos:0<(ao g).length:=by rw[ht];simp
 unfold readIn
 rw[if_neg (by
  rintro(q|q|q)
  ·exact q s1
  ·omega
  ·unfold PARTS at q;omega),hn,hrows]
 dsimp only
 have C:∀i l r,((ao g).map (jF (ao g)))[i]?=some (l,r)->∀f:Nat->ae,(∀j,j∈l\/j∈r->f j=val (ao g) j)->aq (.mk (l.map f) (r.map f))=val (ao g) i:=by
  intro i l r hi f hf;rw[List.getElem?_map,Option.map_eq_some_iff]at hi;obtain⟨x,hx,e⟩:=hi;unfold jF at e;injection e with e1 e2
  have hxm:x∈ao g:=List.mem_of_getElem? hx;have vi:val (ao g) i=x:=by unfold val;rw[List.getD_eq_getElem?_getD,hx];rfl
  have vp:∀y∈ao g,val (ao g) (bW (ao g) y)=y:=by intro y hy;unfold val;rw[List.getD_eq_getElem?_getD,(cU hy).1];rfl
  have fl:l.map f=x.left:=by
   rw[<-e1,List.map_map];conv=>rhs;rw[<-List.map_id x.left]
   refine List.map_congr_left fun y hy=>?_;simp only[Function.comp_apply,id];rw[hf _ (.inl (by rw[<-e1];exact List.mem_map_of_mem hy)),vp y (hc x hxm y (.inl hy))]
  have fr:r.map f=x.right:=by
   rw[<-e2,List.map_map];conv=>rhs;rw[<-List.map_id x.right]
   refine List.map_congr_left fun y hy=>?_;simp only[Function.comp_apply,id];rw[hf _ (.inr (by rw[<-e2];exact List.mem_map_of_mem hy)),vp y (hc x hxm y (.inr hy))]
  rw[fl,fr,nJ,vi];exact aS (lp x hxm)
 obtain⟨⟨gs1,m⟩,pr⟩:=i8 (gs:=gs) (rows:=(ao g).map (jF (ao g))) (C:=fun i x=>x=val (ao g) i) C ((ao g).map (jF (ao g))).length (s,[]) ⟨gs,h,.refl _,by simp,by simp,by simp⟩;have pr:=pr (by simp);have le:=m.le;generalize madeRounds ((ao g).map (jF (ao g))) ((ao g).map (jF (ao g))).length (s,[])=y at *
 have full:y.2.length=((ao g).map (jF (ao g))).length:=by
  apply Classical.byContradiction;intro ne
  have all:∀n,∀i(hi:i<(ao g).length),sizeOf (ao g)[i]<n->iu y.2 i:=by
   intro n;induction n with
   |zero=>intro i hi q;omega
   |succ n ih=>
    intro i hi q;rcases pr i ((ao g)[i].left.map (bW (ao g))) ((ao g)[i].right.map (bW (ao g))) (by simp[hi,jF])with c|c
    ·omega
    ·refine c (pK.mpr fun j hj=>?_);rw[<-List.map_append,List.mem_map]at hj;obtain⟨z,hz,rfl⟩:=hj;have hz:=List.mem_append.mp hz;have hzm:=hc _ (List.getElem_mem hi) z hz;obtain⟨q1,q2⟩:=cU hzm;refine ih _ q2 ?_;rw[List.getElem?_eq_getElem q2]at q1;rw[Option.some.inj q1];have:sizeOf z<sizeOf (ao g)[i]:=hz.elim ft dG;omega
  have sub:=aC (l:=List.range (ao g).length) (P:=y.2.map (·.1)) List.nodup_range (by intro i hi;rw[List.mem_range]at hi;obtain⟨e,he,q⟩:=all _ i hi (Nat.lt_succ_self _);exact List.mem_map.mpr ⟨e,he,q⟩);simp at sub le ne;omega
 have key0:iu y.2 0:=by
  apply Classical.byContradiction;intro no
  have:=aC m.nodup (P:=(List.range ((ao g).map (jF (ao g))).length).tail) (by
   intro i hi;obtain⟨e,he,rfl⟩:=List.mem_map.mp hi;have lt:=(m.ent e he).1;have ne:e.1≠0:=fun q=>no ⟨e,he,q⟩;rw[List.length_map]at lt;have:(List.range ((ao g).map (jF (ao g))).length)=0::((List.range ((ao g).length-1)).map Nat.succ):=by rw[List.length_map,show(ao g).length=((ao g).length-1)+1 by omega,List.range_succ_eq_map];simp
   rw[this,List.tail_cons,List.mem_map];exact⟨e.1-1,List.mem_range.mpr (by omega),by simp only[Nat.succ_eq_add_one];omega⟩)
  simp at this full;omega
 have lk:=m.ent _ (rL key0);dsimp only at lk;have vg:val gs1 (look y.2 0)=g:=by rw[lk.2.2];unfold val;rw[ht];rfl
 rw[if_neg (by
  rintro(q|q)
  ·exact q full
  ·rw[List.isEmpty_iff,List.map_eq_nil_iff]at q;rw[q]at pos;simp at pos)]
 rw[if_pos (by rw[jG m.ok lk.2.1,vg];simp)];exact⟨_,rfl,gs1,m.ok,m.grow,lk.2.1,vg⟩
theorem Ok.det{s:Store}{gs gs':List ae}(h:Ok s gs)(h':Ok s gs'){i:Nat}(hi:i<gs.length):val gs i=val gs' i:=by
 have len:gs.length=gs'.length:=h.size.symm.trans h'.size;induction i using Nat.strongRecOn with
 |ind i ih=>
  rw[h.game i hi,h'.game i (by omega)];congr 1
  ·exact List.map_congr_left fun j hj=>ih j (h.left i hi j hj) (by have:=h.left i hi j hj;omega)
  ·exact List.map_congr_left fun j hj=>ih j (h.right i hi j hj) (by have:=h.right i hi j hj;omega)
theorem bT.unique{b:Bytes}{g g':ae}(h:bT b g)(h':bT b g'):g=g':=by obtain⟨x,e,gs1,o1,r1,l1,v1⟩:=gn ok0 h;obtain⟨x',e',gs2,o2,r2,l2,v2⟩:=gn ok0 h';rw[e]at e';cases e';rw[<-v1,<-v2];exact o1.det o2 l1
end
end Gth
namespace Gth
open Gw Games
open Classical in
noncomputable def cQ(sl:List ae)(d:Nat)(g:ae):List ae×Answer:=
 if b7 (fun x=>x=g\/x∈sl)then(sl.set d g,says 0)else(sl,says (-5))
def gE(sl:List ae)(a b:ae):Prop:=b7 (fun x=>gL a b x\/x∈sl)
open Classical in
noncomputable def jo:Nat->List ae->ae->ae->Option ae
 |0,_,_,x=>some x
 |k+1,sl,g,x=>if gE sl x g then jo k sl g (aq (bt x g))else none
noncomputable def fo(sl:List ae):List ae:=bg [] sl
theorem qC(sl:List ae):dQ (fo sl) (fun x=>x∈sl):=by
 obtain⟨v,m⟩:=gU sl [] (fun x _=>mJ x) (by simp);refine⟨v.nodup,fun p=>⟨fun hp=>?_,?_⟩⟩
 ·rcases v.sound p hp with c|c
  ·simp at c
  ·exact c
 ·rintro⟨y,hy,hp⟩
  have:∀x,az p x->x∈bg [] sl->p∈bg [] sl:=by
   intro x hx;induction hx with
   |refl=>exact id
   |left y x hy _ ih=>intro hx;exact ih ((v.closed x hx (by simp)).1 y hy)
   |right y x hy _ ih=>intro hx;exact ih ((v.closed x hx (by simp)).2 y hy)
  exact this _ hp (m y hy)
open Classical in
noncomputable def aG(sl:List ae):Call->List ae×Answer
 |.number d m k=>if isSlot d=false then(sl,says (-1))else if 62<k then(sl,says (-2))else cQ sl d (aF k m)
 |.heap d n=>if isSlot d=false then(sl,says (-1))else cQ sl d (bY n)
 |.make d l r=>if isSlot d=false\/ROW<l.length\/ROW<r.length\/((l++r).all isSlot)=false then(sl,says (-1))else cQ sl d (aq (.mk (l.map (val sl)) (r.map (val sl))))
 |.minus d a=>if isSlot d=false\/isSlot a=false then(sl,says (-1))else cQ sl d (aq (bo (val sl a)))
 |.sum d a b=>if isSlot d=false\/isSlot a=false\/isSlot b=false then(sl,says (-1))else
  if gE sl (val sl a) (val sl b)then(sl.set d (aq (bt (val sl a) (val sl b))),says 0)else(sl,says (-5))
 |.times d a n=>if isSlot d=false\/isSlot a=false then(sl,says (-1))else if n < -TIMES\/TIMES<n then(sl,says (-2))else
  let g:=if n<0 then aq (bo (val sl a))else val sl a
  if n=0 then cQ sl d aM else if n.natAbs=1 then cQ sl d g else match jo (n.natAbs-1) sl g g with
   |none=>(sl,says (-5))
   |some x=>cQ sl d x
 |.option d a side i=>if isSlot d=false\/isSlot a=false\/1<side then(sl,says (-1))else match (if side=0 then(val sl a).left else(val sl a).right)[i]? with
  |none=>(sl,says (-2))
  |some x=>cQ sl d x
 |.order a b=>(sl,if isSlot a=false\/isSlot b=false then says (-1)else
  says (if le (val sl a) (val sl b)then(if le (val sl b) (val sl a)then 0 else 2)else if le (val sl b) (val sl a)then 1 else 3))
 |.shape a=>(sl,if isSlot a=false then says (-1)else
  tells 0 [.num (ao (val sl a)).length,.num (optCount (ao (val sl a))),.num (born (val sl a)),.num (val sl a).left.length,.num (val sl a).right.length])
 |.room=>(sl,tells 0 [.num (fo sl).length,.num (optCount (fo sl))])
 |.write a=>(sl,if isSlot a=false then says (-1)else tells 0 [.text (cD (val sl a))])
 |.read d b=>if isSlot d=false then(sl,says (-1))else if h:∃g,bT b g then cQ sl d (Classical.choose h)else(sl,says (-3))
structure tY(st:State)(gs sl:List ae):Prop where
 ok:Ok st.store gs
 len:st.slots.length=16
 lt:∀i∈st.slots,i<gs.length
 eq:sl=st.slots.map (val gs)
 few:gs.length<=96
def Ff(st:State)(sl:List ae):Prop:=∃gs,tY st gs sl
theorem B2:Ff Games.start (List.replicate 16 aM):=by
 refine⟨[aM],ok0,?_,?_,?_,?_⟩
 ·simp[Games.start,SLOTS]
 ·intro i hi;simp[Games.start,SLOTS]at hi;simp[hi]
 ·simp only[Games.start,SLOTS,List.map_replicate];rfl
 ·simp
section
variable{st:State}{gs sl:List ae}
theorem tY.pos(h:tY st gs sl):0<gs.length:=by
 have:st.slots≠[]:=by intro e;have:=h.len;rw[e]at this;simp at this
 obtain⟨x,hx⟩:=List.exists_mem_of_ne_nil _ this;have:=h.lt x hx;omega
theorem tY.at_lt(h:tY st gs sl)(a:Nat):at_ st a<gs.length:=by
 unfold at_;rw[List.getD_eq_getElem?_getD];by_cases c:a<st.slots.length
 ·rw[List.getElem?_eq_getElem c];exact h.lt _ (List.getElem_mem c)
 ·rw[List.getElem?_eq_none (by omega)];exact h.pos
theorem tY.at_val(h:tY st gs sl){a:Nat}(ha:isSlot a=true):val gs (at_ st a)=val sl a:=by
 have ha:a<16:=of_decide_eq_true ha;have hl:a<st.slots.length:=by rw[h.len];exact ha
 rw[h.eq];unfold at_;rw[List.getD_eq_getElem?_getD,List.getElem?_eq_getElem hl];rw[gQ (gs:=gs) hl];rfl
theorem tY.slen(h:tY st gs sl):sl.length=16:=by rw[h.eq,List.length_map];exact h.len
theorem ql{α:Type}{l:List α}{d:Nat}{x y:α}(h:y∈l.set d x):y=x\/y∈l:=(List.mem_or_eq_of_mem_set h).elim .inr .inl
theorem vH{s':Store}{slots:List Nat}{gs1:List ae}(h1:Ok s' gs1)(hlen:slots.length=16)(hlt:∀i∈slots,i<gs1.length)(hsl:sl=slots.map (val gs1)) {st:State} (hst:st.slots=slots) {x:Nat} {g:ae} (hx:x<gs1.length) (hv:val gs1 x=g) {more:List Nat} (hm:∀i∈more,i<gs1.length) (d:Nat) :(b7 (fun y=>(∃i∈more,val gs1 i=y)\/y=g\/y∈sl)->Ff (puts st d (s',x) more).1 (sl.set d g)/\(puts st d (s',x) more).2=says 0)/\(¬b7 (fun y=>(∃i∈more,val gs1 i=y)\/y=g\/y∈sl)->puts st d (s',x) more=(st,says (-5))):=by
 have hall:∀i∈x::(more++slots),i<gs1.length:=by
  intro i hi;rcases List.mem_cons.mp hi with rfl|hi
  ·exact hx
  ·exact(List.mem_append.mp hi).elim (hm i) (hlt i)
 have key:roomy s' (x::(more++slots))=true↔b7 (fun y=>(∃i∈more,val gs1 i=y)\/y=g\/y∈sl):=by
  rw[xp h1 hall];refine b7.congr fun p=>?_
  have:∀y,(∃i∈x::(more++slots),val gs1 i=y)↔((∃i∈more,val gs1 i=y)\/y=g\/y∈sl):=by
   intro y;rw[hsl,List.mem_map];constructor
   ·rintro⟨i,hi,rfl⟩;rcases List.mem_cons.mp hi with rfl|hi
    ·exact .inr (.inl hv)
    ·rcases List.mem_append.mp hi with hi|hi
     ·exact .inl ⟨i,hi,rfl⟩
     ·exact .inr (.inr ⟨i,hi,rfl⟩)
   ·rintro(⟨i,hi,rfl⟩|rfl|⟨i,hi,rfl⟩)
    ·exact⟨i,by simp[hi],rfl⟩
    ·exact⟨x,by simp,hv⟩
    ·exact⟨i,by simp[hi],rfl⟩
  simp only[this]
 unfold puts;dsimp only;rw[hst];constructor
 ·intro r;have r':=key.mpr r;rw[if_neg (by rw[r'];simp)]
  have hset:∀i∈slots.set d x,i<gs1.length:=by
   intro i hi;rcases ql hi with rfl|hi
   ·exact hx
   ·exact hlt i hi
  obtain⟨k1,k2⟩:=AF h1 hset;have inp:∀i∈slots.set d x,i∈partsOf s' (slots.set d x):=fun i hi=>(aU h1 hset).mpr ⟨hset i hi,i,hi,.refl⟩;refine⟨⟨_,k1,?_,?_,?_,?_⟩,rfl⟩
  ·simp[hlen]
  ·intro i hi;obtain⟨j,hj,rfl⟩:=List.mem_map.mp hi;exact(k2 j (inp j hj)).1
  ·dsimp only;rw[List.map_map];have:∀j∈slots.set d x,(val ((partsOf s' (slots.set d x)).map (val gs1))∘(kept s' (slots.set d x)).2) j=val gs1 j:=fun j hj=>(k2 j (inp j hj)).2;rw[List.map_congr_left this,List.map_set,hsl,hv]
  ·have ip:=g_ h1 hset;refine r.length_le ip.1 fun p hp=>?_;obtain⟨y,⟨i,hi,e⟩,q⟩:=(ip.2 p).mp hp;refine⟨y,?_,q⟩;rcases ql hi with rfl|hi
   ·exact .inr (.inl (e.symm.trans hv))
   ·exact .inr (.inr (by rw[hsl];exact List.mem_map.mpr ⟨i,hi,e⟩))
 ·intro r
  have r':roomy s' (x::(more++slots))=false:=by
   cases q:roomy s' (x::(more++slots))with
   |false=>rfl
   |true=>exact absurd (key.mp q) r
  rw[if_pos r']
theorem eS{Q:ae->Prop}(h:tY st gs sl){x:Store×Nat}{g:ae}(m:oy Q gs x g)(d:Nat):Ff (puts st d x []).1 (cQ sl d g).1/\(puts st d x []).2=(cQ sl d g).2:=by
 obtain⟨gs1,o,gr,lt,v⟩:=m;have:=vH (s':=x.1) (slots:=st.slots) o h.len (fun i hi=>Nat.lt_of_lt_of_le (h.lt i hi) gr.le) (sl:=sl) (by rw[h.eq,gr.map h.lt]) rfl lt v (more:=[]) (by simp) d;have e:b7 (fun y=>(∃i∈([]:List Nat),val gs1 i=y)\/y=g\/y∈sl)↔b7 (fun x=>x=g\/x∈sl):=b7.congr fun p=>by simp
 unfold cQ;by_cases r:b7 (fun x=>x=g\/x∈sl)
 ·rw[if_pos r];exact this.1 (e.mpr r)
 ·rw[if_neg r,this.2 (fun q=>r (e.mp q))];exact⟨⟨gs,h⟩,rfl⟩
theorem ou{Q R:ae->Prop}(hl:gs.length<=400)(g:Am Q gs)(k:∀x,Q x->R x):¬b7 R:=by intro r;obtain⟨gs',nd,⟨more,rfl,hm⟩,lt⟩:=g;rw[List.nodup_append]at nd;have:=r.length_le nd.2.1 (fun p hp=>⟨p,k p (hm p hp),.refl⟩);rw[List.length_append]at lt;unfold GROWN at lt;omega
theorem um:∀g:ae,az aM g:=by
 apply ae.ind;intro g hl hr;cases g with
 |mk l r=>
  cases l with
  |cons x l=>exact .left x _ (by simp) (hl x (by simp))
  |nil=>
   cases r with
   |cons x r=>exact .right x _ (by simp) (hr x (by simp))
   |nil=>exact .refl
theorem zero_add:∀g:ae,bt aM g=g:=by
 apply ae.ind;intro g hl hr;rw[s_]
 have e1:g.left.map (fun b=>bt aM b)=g.left:=by
  conv=>rhs;rw[<-List.map_id g.left]
  exact List.map_congr_left fun x hx=>hl x hx
 have e2:g.right.map (fun b=>bt aM b)=g.right:=by
  conv=>rhs;rw[<-List.map_id g.right]
  exact List.map_congr_left fun x hx=>hr x hx
 rw[e1,e2];simp only[aM,vy,rA,List.map_nil,List.nil_append];exact nJ g
theorem add_zero:∀g:ae,bt g aM=g:=by
 apply ae.ind;intro g hl hr;rw[s_]
 have e1:g.left.map (fun b=>bt b aM)=g.left:=by
  conv=>rhs;rw[<-List.map_id g.left]
  exact List.map_congr_left fun x hx=>hl x hx
 have e2:g.right.map (fun b=>bt b aM)=g.right:=by
  conv=>rhs;rw[<-List.map_id g.right]
  exact List.map_congr_left fun x hx=>hr x hx
 rw[e1,e2];simp only[aM,vy,rA,List.map_nil,List.append_nil];exact nJ g
theorem rJ{a b:ae}(hb:bc b){p:ae}(hp:az p b):gL a b p:=⟨aM,p,um a,hp,by rw[zero_add,aS (hp.least hb)]⟩
theorem uq{a b:ae}(ha:bc a){p:ae}(hp:az p a):gL a b p:=⟨p,aM,hp,um b,by rw[add_zero,aS (hp.least ha)]⟩
theorem pQ{a b:ae}:gL a b (aq (bt a b)):=⟨a,b,.refl,.refl,rfl⟩
theorem uP:∀(k:Nat)(s:Store)(gs:List ae)(slots:List Nat)(g x:Nat),Ok s gs->gs.length<=400->(∀i∈slots,i<gs.length)->g<gs.length->x<gs.length->match addsTo k s slots g x with
  |none=>jo k (slots.map (val gs)) (val gs g) (val gs x)=none
  |some y=>∃gs',Ok y.1 gs'/\(∀i∈y.2.1,i<gs'.length)/\y.2.1.map (val gs')=slots.map (val gs)/\y.2.2<gs'.length/\((0<k\/gs.length<=96)->gs'.length<=96)/\jo k (slots.map (val gs)) (val gs g) (val gs x)=some (val gs' y.2.2)
 |0,s,gs,slots,g,x,h,hl,hs,hg,hx=>by rw[addsTo];exact⟨gs,h,hs,rfl,hx,fun q=>by omega,rfl⟩
 |k+1,s,gs,slots,g,x,h,hl,hs,hg,hx=>by
  rw[addsTo,jo];have so:=xN h hx hg;cases e:sumIn s x g with
  |none=>rw[e]at so;dsimp only at so⊢;rw[if_neg];exact ou hl so fun y hy=>.inl hy
  |some y=>
   rw[e]at so;dsimp only at so⊢;obtain⟨gs1,o1,g1,l1,v1,m1,q1⟩:=so;have hs1:∀i∈slots,i<gs1.length:=fun i hi=>Nat.lt_of_lt_of_le (hs i hi) g1.le
   have hall:∀i∈y.2.1::(y.2.2++slots),i<gs1.length:=by
    intro i hi;rcases List.mem_cons.mp hi with rfl|hi
    ·exact l1
    ·exact(List.mem_append.mp hi).elim (m1 i) (hs1 i)
   have key:roomy y.1 (y.2.1::(y.2.2++slots))=true↔gE (slots.map (val gs)) (val gs x) (val gs g):=by
    rw[xp o1 hall];refine b7.congr fun p=>?_
    have:∀z,(∃i∈y.2.1::(y.2.2++slots),val gs1 i=z)↔(gL (val gs x) (val gs g) z\/z∈slots.map (val gs)):=by
     intro z;rw[<-g1.map hs,List.mem_map];constructor
     ·rintro⟨i,hi,rfl⟩;rcases List.mem_cons.mp hi with rfl|hi
      ·exact .inl (by rw[v1];exact pQ)
      ·rcases List.mem_append.mp hi with hi|hi
       ·exact .inl ((q1 _).mp ⟨i,hi,rfl⟩)
       ·exact .inr ⟨i,hi,rfl⟩
     ·rintro(c|⟨i,hi,rfl⟩)
      ·obtain⟨i,hi,e⟩:=(q1 z).mpr c;exact⟨i,by simp[hi],e⟩
      ·exact⟨i,by simp[hi],rfl⟩
    simp only[this]
   by_cases r:roomy y.1 (y.2.1::(y.2.2++slots))=false
   ·rw[if_pos r,if_neg (fun q=>by rw[key.mpr q]at r;cases r)]
   ·have r':roomy y.1 (y.2.1::(y.2.2++slots))=true:=by simpa using r
    have rr:=key.mp r';rw[if_neg r,if_pos rr];have hg1:g<gs1.length:=Nat.lt_of_lt_of_le hg g1.le
    have hk:∀i∈y.2.1::(g::slots),i<gs1.length:=by
     intro i hi;rcases List.mem_cons.mp hi with rfl|hi
     ·exact l1
     ·rcases List.mem_cons.mp hi with rfl|hi
      ·exact hg1
      ·exact hs1 i hi
    obtain⟨k1,k2⟩:=AF o1 hk;have inp:∀i∈y.2.1::(g::slots),i∈partsOf y.1 (y.2.1::(g::slots)):=fun i hi=>(aU o1 hk).mpr ⟨hk i hi,i,hi,.refl⟩
    have few:((partsOf y.1 (y.2.1::(g::slots))).map (val gs1)).length<=96:=by
     have ip:=g_ o1 hk;refine b7.length_le rr ip.1 fun p hp=>?_;obtain⟨z,⟨i,hi,ez⟩,q⟩:=(ip.2 p).mp hp;rcases List.mem_cons.mp hi with hi|hi
     ·exact⟨z,.inl (by rw[<-ez,hi,v1];exact pQ),q⟩
     ·rcases List.mem_cons.mp hi with hi|hi
      ·exact⟨z,.inl (by rw[<-ez,hi,g1.val hg];exact rJ (h.least _ hg) .refl),q⟩
      ·exact⟨z,.inr (by rw[<-g1.map hs];exact List.mem_map.mpr ⟨i,hi,ez⟩),q⟩
    have step:=uP k (kept y.1 (y.2.1::(g::slots))).1 _ (slots.map (kept y.1 (y.2.1::(g::slots))).2) ((kept y.1 (y.2.1::(g::slots))).2 g) ((kept y.1 (y.2.1::(g::slots))).2 y.2.1) k1 (by omega) (by intro i hi;obtain⟨j,hj,rfl⟩:=List.mem_map.mp hi;exact(k2 j (inp j (by simp[hj]))).1) (k2 g (inp g (by simp))).1 (k2 y.2.1 (inp _ (by simp))).1;have es:(slots.map (kept y.1 (y.2.1::(g::slots))).2).map (val ((partsOf y.1 (y.2.1::(g::slots))).map (val gs1)))=slots.map (val gs):=by rw[List.map_map,<-g1.map hs];exact List.map_congr_left fun j hj=>(k2 j (inp j (by simp[hj]))).2
    rw[es,(k2 g (inp g (by simp))).2,(k2 y.2.1 (inp _ (by simp))).2,v1,g1.val hg]at step;generalize addsTo k _ _ _ _=o at step⊢;match o,step with
    |none,q=>exact q
    |some w,⟨gs3,a1,a2,a3,a4,a5,a6⟩=>exact⟨gs3,a1,a2,a3,a4,fun _=>a5 (.inr few),a6⟩
theorem En(h:Ff st sl)(c:Call):Ff (Games.step st c).1 (aG sl c).1/\(Games.step st c).2=(aG sl c).2:=by
 obtain⟨gs,h⟩:=h;have same:Ff st sl:=⟨gs,h⟩
 cases c with
 |number d m k=>
  unfold Games.step aG;dsimp only;by_cases c1:isSlot d=false
  ·rw[if_pos c1,if_pos c1];exact⟨same,rfl⟩
  ·rw[if_neg c1,if_neg c1];by_cases c2:62<k
   ·rw[if_pos c2,if_pos c2];exact⟨same,rfl⟩
   ·rw[if_neg c2,if_neg c2];by_cases c3:96*2^(leastOf k m).k<=(leastOf k m).m.natAbs
    ·rw[if_pos c3];unfold cQ;rw[if_neg (w8 c3 (.inl (kN k m)))];exact⟨same,rfl⟩
    ·rw[if_neg c3];have:=eS h (t5 h.ok (leastOf k m).k (leastOf k m).m) d;rw[kN]at this;exact this
 |heap d n=>
  unfold Games.step aG;dsimp only;by_cases c1:isSlot d=false
  ·rw[if_pos c1,if_pos c1];exact⟨same,rfl⟩
  ·rw[if_neg c1,if_neg c1];by_cases c2:40<n
   ·rw[if_pos c2];unfold cQ;rw[if_neg (Bm c2 (.inl rfl))];exact⟨same,rfl⟩
   ·rw[if_neg c2];exact eS h (wH h.ok n) d
 |make d l r=>
  unfold Games.step aG;dsimp only;by_cases c1:isSlot d=false\/ROW<l.length\/ROW<r.length\/((l++r).all isSlot)=false
  ·rw[if_pos c1,if_pos c1];exact⟨same,rfl⟩
  ·rw[if_neg c1,if_neg c1]
   have sl':∀i,i∈l\/i∈r->isSlot i=true:=by
    intro i hi
    have:(l++r).all isSlot=true:=by
     cases q:(l++r).all isSlot with
     |true=>rfl
     |false=>exact absurd (.inr (.inr (.inr q))) c1
    exact List.all_eq_true.mp this i (List.mem_append.mpr hi)
   have:=eS h (dP h.ok (l:=l.map (at_ st)) (r:=r.map (at_ st)) (by intro i hi;obtain⟨j,_,rfl⟩:=List.mem_map.mp hi;exact h.at_lt j) (by intro i hi;obtain⟨j,_,rfl⟩:=List.mem_map.mp hi;exact h.at_lt j)) d;rw[List.map_map,List.map_map,List.map_congr_left (show ∀i∈l,(val gs∘at_ st) i=val sl i from fun i hi=>h.at_val (sl' i (.inl hi))),List.map_congr_left (show ∀i∈r,(val gs∘at_ st) i=val sl i from fun i hi=>h.at_val (sl' i (.inr hi)))]at this;exact this
 |minus d a=>
  unfold Games.step aG;dsimp only;by_cases c1:isSlot d=false\/isSlot a=false
  ·rw[if_pos c1,if_pos c1];exact⟨same,rfl⟩
  ·rw[if_neg c1,if_neg c1];have ha:isSlot a=true:=by simpa using fun q=>c1 (.inr q)
   have:=eS h (oQ h.ok (h.at_lt a)) d;rw[h.at_val ha]at this;exact this
 |sum d a b=>
  unfold Games.step aG;dsimp only;by_cases c1:isSlot d=false\/isSlot a=false\/isSlot b=false
  ·rw[if_pos c1,if_pos c1];exact⟨same,rfl⟩
  ·rw[if_neg c1,if_neg c1];have ha:isSlot a=true:=by simpa using fun q=>c1 (.inr (.inl q))
   have hb:isSlot b=true:=by simpa using fun q=>c1 (.inr (.inr q))
   have so:=xN h.ok (h.at_lt a) (h.at_lt b);rw[h.at_val ha,h.at_val hb]at so;cases e:sumIn st.store (at_ st a) (at_ st b)with
   |none=>
    rw[e]at so;dsimp only at so⊢;rw[if_neg]
    ·exact⟨same,rfl⟩
    ·exact ou (by have:=h.few;omega) so fun y hy=>.inl hy
   |some x=>
    rw[e]at so;dsimp only at so⊢;obtain⟨gs1,o1,g1,l1,v1,m1,q1⟩:=so;have:=vH (s':=x.1) (slots:=st.slots) o1 h.len (fun i hi=>Nat.lt_of_lt_of_le (h.lt i hi) g1.le) (sl:=sl) (by rw[h.eq,g1.map h.lt]) (st:=st) rfl l1 v1 m1 d
    have e2:b7 (fun y=>(∃i∈x.2.2,val gs1 i=y)\/y=aq (bt (val sl a) (val sl b))\/y∈sl)↔gE sl (val sl a) (val sl b):=by
     refine b7.congr fun p=>?_
     have:∀z,((∃i∈x.2.2,val gs1 i=z)\/z=aq (bt (val sl a) (val sl b))\/z∈sl)↔(gL (val sl a) (val sl b) z\/z∈sl):=by
      intro z;rw[q1];constructor
      ·rintro(c|rfl|c)
       ·exact .inl c
       ·exact .inl pQ
       ·exact .inr c
      ·rintro(c|c)
       ·exact .inl c
       ·exact .inr (.inr c)
     simp only[this]
    by_cases r:gE sl (val sl a) (val sl b)
    ·rw[if_pos r];exact this.1 (e2.mpr r)
    ·rw[if_neg r,this.2 (fun q=>r (e2.mp q))];exact⟨same,rfl⟩
 |times d a n=>
  unfold Games.step aG;dsimp only;by_cases c1:isSlot d=false\/isSlot a=false
  ·rw[if_pos c1,if_pos c1];exact⟨same,rfl⟩
  ·rw[if_neg c1,if_neg c1];have ha:isSlot a=true:=by simpa using fun q=>c1 (.inr q)
   by_cases c2:n < -TIMES\/TIMES<n
   ·rw[if_pos c2,if_pos c2];exact⟨same,rfl⟩
   ·rw[if_neg c2,if_neg c2];by_cases c3:n=0
    ·rw[if_pos c3,if_pos c3];exact eS h (ko h.ok) d
    ·rw[if_neg c3,if_neg c3]
     have mg:oy (x9 (val sl a)) gs (if n<0 then minusIn st.store (at_ st a)else(st.store,at_ st a)) (if n<0 then aq (bo (val sl a))else val sl a):=by
      have mm:=oQ h.ok (h.at_lt a);rw[h.at_val ha]at mm;by_cases c4:n<0
      ·rw[if_pos c4,if_pos c4];exact mm
      ·rw[if_neg c4,if_neg c4];exact⟨gs,h.ok,.refl _,h.at_lt a,h.at_val ha⟩
     generalize (if n<0 then minusIn st.store (at_ st a)else(st.store,at_ st a))=x at mg;generalize hG:(if n<0 then aq (bo (val sl a))else val sl a)=G at mg;by_cases c5:n.natAbs=1
     ·rw[if_pos c5,if_pos c5];exact eS h mg d
     ·rw[if_neg c5,if_neg c5];obtain⟨gs1,o1,g1,l1,v1⟩:=mg
      have few:gs1.length<=400:=by
       obtain⟨more,rfl,hm⟩:=g1;have nd:=o1.nodup;rw[List.nodup_append]at nd;have hla:∀i∈[at_ st a],i<gs.length:=by simpa using h.at_lt a
       have:=aC nd.2.1 (P:=(partsOf st.store [at_ st a]).map (fun i=>aq (bo (val gs i)))) (by intro p hp;obtain⟨u,pu,rfl⟩:=hm p hp;rw[<-h.at_val ha]at pu;obtain⟨j,hj,_,rfl⟩:=fA h.ok (S:=fun _=>True) (fun _ _ _=>⟨fun _ _=>trivial,fun _ _=>trivial⟩) pu _ (h.at_lt a) trivial rfl;have:=h.at_lt a;exact List.mem_map.mpr ⟨j,(aU h.ok hla).mpr ⟨by omega,_,by simp,pu⟩,rfl⟩);have pl:(partsOf st.store [at_ st a]).length<=gs.length:=by have:=aC ((bZ (s:=st.store) [at_ st a]).imp (fun a=>Nat.ne_of_lt a)) (P:=List.range gs.length) (fun i hi=>List.mem_range.mpr (fZ h.ok hla i hi));simpa using this
       have:=h.few;simp at *;omega
      have ad:=uP (n.natAbs-1) x.1 gs1 st.slots x.2 x.2 o1 few (fun i hi=>Nat.lt_of_lt_of_le (h.lt i hi) g1.le) l1 l1;rw[g1.map h.lt,<-h.eq,v1]at ad;cases e:addsTo (n.natAbs-1) x.1 st.slots x.2 x.2 with
      |none=>rw[e]at ad;dsimp only at ad⊢;rw[ad];exact⟨same,rfl⟩
      |some y=>
       rw[e]at ad;dsimp only at ad⊢;obtain⟨gs2,o2,s2,e2,l2,f2,q2⟩:=ad;rw[q2];dsimp only;have sl2:y.2.1.length=16:=by have:=congrArg List.length e2;rw[List.length_map,h.slen]at this;exact this
       have:=vH (s':=y.1) (slots:=y.2.1) o2 sl2 s2 (sl:=sl) e2.symm (st:=⟨y.1,y.2.1⟩) rfl l2 rfl (more:=[]) (by simp) d;have e3:b7 (fun z=>(∃i∈([]:List Nat),val gs2 i=z)\/z=val gs2 y.2.2\/z∈sl)↔b7 (fun x=>x=val gs2 y.2.2\/x∈sl):=b7.congr fun p=>by simp
       unfold cQ;by_cases r:b7 (fun x=>x=val gs2 y.2.2\/x∈sl)
       ·rw[if_pos r];exact this.1 (e3.mpr r)
       ·rw[if_neg r,this.2 (fun q=>r (e3.mp q))];exact⟨⟨gs2,o2,sl2,s2,e2.symm,f2 (.inl (by omega))⟩,rfl⟩
 |option d a side i=>
  unfold Games.step aG;dsimp only;by_cases c1:isSlot d=false\/isSlot a=false\/1<side
  ·rw[if_pos c1,if_pos c1];exact⟨same,rfl⟩
  ·rw[if_neg c1,if_neg c1];have ha:isSlot a=true:=by simpa using fun q=>c1 (.inr (.inl q))
   have lt:=h.at_lt a;have e:(if side=0 then(val sl a).left else(val sl a).right)=(if side=0 then(st.store.node (at_ st a)).left else(st.store.node (at_ st a)).right).map (val gs):=by rw[<-h.at_val ha,h.ok.lefts lt,h.ok.rights lt];split<;>rfl
   rw[e,List.getElem?_map]
   have inl:∀j∈(if side=0 then(st.store.node (at_ st a)).left else(st.store.node (at_ st a)).right),j<gs.length:=by
    intro j hj;split at hj
    ·have:=h.ok.left _ lt j hj;omega
    ·have:=h.ok.right _ lt j hj;omega
   cases q:(if side=0 then(st.store.node (at_ st a)).left else(st.store.node (at_ st a)).right)[i]? with
   |none=>exact⟨same,rfl⟩
   |some x=>have:=inl x (List.mem_of_getElem? q);exact eS h (x:=(st.store,x)) (Q:=yE) ⟨gs,h.ok,.refl _,this,rfl⟩ d
 |order a b=>
  unfold Games.step aG;dsimp only;refine⟨same,?_⟩;by_cases c1:isSlot a=false\/isSlot b=false
  ·rw[if_pos c1,if_pos c1]
  ·rw[if_neg c1,if_neg c1];have ha:isSlot a=true:=by simpa using fun q=>c1 (.inl q)
   have hb:isSlot b=true:=by simpa using fun q=>c1 (.inr q)
   have m1:=h.ok.most _ _ (h.at_lt a) (h.at_lt b);have m2:=h.ok.most _ _ (h.at_lt b) (h.at_lt a);rw[h.at_val ha,h.at_val hb]at m1 m2;by_cases x1:le (val sl a) (val sl b)
   ·by_cases x2:le (val sl b) (val sl a)
    ·rw[if_pos (m1.mpr x1),if_pos (m2.mpr x2),if_pos x1,if_pos x2]
    ·rw[if_pos (m1.mpr x1),if_neg (fun q=>x2 (m2.mp q)),if_pos x1,if_neg x2]
   ·by_cases x2:le (val sl b) (val sl a)
    ·rw[if_neg (fun q=>x1 (m1.mp q)),if_pos (m2.mpr x2),if_neg x1,if_pos x2]
    ·rw[if_neg (fun q=>x1 (m1.mp q)),if_neg (fun q=>x2 (m2.mp q)),if_neg x1,if_neg x2]
 |shape a=>
  unfold Games.step aG;dsimp only;refine⟨same,?_⟩;by_cases c1:isSlot a=false
  ·rw[if_pos c1,if_pos c1]
  ·rw[if_neg c1,if_neg c1];have ha:isSlot a=true:=by simpa using c1
   have lt:=h.at_lt a;have hla:∀i∈[at_ st a],i<gs.length:=by simpa using lt
   have ip:=g_ h.ok hla
   have ip':dQ (ao (val sl a)) (fun x=>∃i∈[at_ st a],val gs i=x):=by
    have:=fy (val sl a);refine⟨this.1,fun p=>(this.2 p).trans ?_⟩;constructor
    ·rintro⟨x,rfl,q⟩;exact⟨_,⟨_,by simp,h.at_val ha⟩,q⟩
    ·rintro⟨x,⟨i,hi,e⟩,q⟩;simp at hi;subst hi;exact⟨x,by rw[<-e];exact h.at_val ha,q⟩
   have pm:=ip.perm ip';have e1:(partsOf st.store [at_ st a]).length=(ao (val sl a)).length:=by rw[<-pm.length_eq,List.length_map]
   have e2:optionsIn st.store (partsOf st.store [at_ st a])=optCount (ao (val sl a)):=by rw[gG h.ok (fZ h.ok hla),dg pm]
   have e3:=h.ok.bornAt _ lt;have e4:(st.store.node (at_ st a)).left.length=(val sl a).left.length:=by rw[<-h.at_val ha,h.ok.lefts lt];simp
   have e5:(st.store.node (at_ st a)).right.length=(val sl a).right.length:=by rw[<-h.at_val ha,h.ok.rights lt];simp
   rw[h.at_val ha]at e3;rw[e1,e2,e3,e4,e5]
 |room=>
  unfold Games.step aG;dsimp only;refine⟨same,?_⟩;have ip:=g_ h.ok h.lt;have ip':dQ (fo sl) (fun x=>∃i∈st.slots,val gs i=x):=by have:=qC sl;refine⟨this.1,fun p=>(this.2 p).trans ?_⟩;rw[h.eq];simp only[List.mem_map]
  have pm:=ip.perm ip';have e1:(partsOf st.store st.slots).length=(fo sl).length:=by rw[<-pm.length_eq,List.length_map]
  have e2:optionsIn st.store (partsOf st.store st.slots)=optCount (fo sl):=by rw[gG h.ok (fZ h.ok h.lt),dg pm]
  rw[e1,e2]
 |write a=>
  unfold Games.step aG;dsimp only;refine⟨same,?_⟩;by_cases c1:isSlot a=false
  ·rw[if_pos c1,if_pos c1]
  ·rw[if_neg c1,if_neg c1];have ha:isSlot a=true:=by simpa using c1
   rw[jG h.ok (h.at_lt a),h.at_val ha]
 |read d b=>
  unfold Games.step aG;dsimp only;by_cases c1:isSlot d=false
  ·rw[if_pos c1,if_pos c1];exact⟨same,rfl⟩
  ·rw[if_neg c1,if_neg c1];cases e:readIn st.store b with
   |none=>
    dsimp only;rw[dif_neg]
    ·exact⟨same,rfl⟩
    ·rintro⟨g,hg⟩;obtain⟨x,q,_⟩:=gn h.ok hg;rw[e]at q;cases q
   |some x=>
    dsimp only;obtain⟨g,mg,hg⟩:=vf h.ok h.pos (by have:=h.few;omega) e;have ex:∃g,bT b g:=⟨g,hg⟩
    rw[dif_pos ex,(Classical.choose_spec ex).unique hg];exact eS h mg d
end
end Gth
namespace Gth
open Classical
def aT(bit:ae->Nat):List ae->Nat
 |[]=>0
 |x::l=>2^bit x|||aT bit l
theorem pz(i j:Nat):(2^i).testBit j=true↔i=j:=by rw[Nat.testBit_two_pow];simp
theorem eX{bit:ae->Nat}{i:Nat}:∀{l:List ae},(aT bit l).testBit i=true↔∃x∈l,bit x=i
 |[]=>by simp[aT]
 |x::l=>by rw[aT,Nat.testBit_or,Bool.or_eq_true,pz,eX (l:=l)];simp
theorem DO{bit:ae->Nat}{l m:List ae}(h:∀i,(∃x∈l,bit x=i)↔∃x∈m,bit x=i):aT bit l=aT bit m:=by apply Nat.eq_of_testBit_eq;intro i;have:=h i;rw[<-eX,<-eX]at this;exact Bool.eq_iff_iff.mpr this
theorem f_{bit:ae->Nat}{l m:List ae}(h:∀x,x∈l↔x∈m):aT bit l=aT bit m:=DO fun i=>by simp only[h]
theorem BA{bit bit':ae->Nat}{l:List ae}(h:∀x∈l,bit x=bit' x):aT bit l=aT bit' l:=by
 induction l with
 |nil=>rfl
 |cons x l ih=>rw[aT,aT,h x (by simp),ih fun y hy=>h y (by simp[hy])]
theorem fI{bit:ae->Nat}{l m:List ae}:aT bit l|||aT bit m=aT bit (l++m):=by
 induction l with
 |nil=>simp[aT]
 |cons x l ih=>rw[List.cons_append,aT,aT,Nat.or_assoc,ih]
theorem vQ{bit:ae->Nat}(x:ae):aT bit [x]=2^bit x:=by simp[aT]
theorem lT{bit:ae->Nat}{l:List ae}{x:ae}:aT bit l|||2^bit x=aT bit (l++[x]):=by rw[<-vQ,fI]
def D2(bit:ae->Nat)(gs:List ae):Prop:=∀x∈gs,∀y∈gs,bit x=bit y->x=y
theorem wc{bit:ae->Nat}{gs l m:List ae}(inj:D2 bit gs)(hl:∀x∈l,x∈gs)(hm:∀x∈m,x∈gs):aT bit l&&&aT bit m=aT bit (l.filter fun x=>decide (x∈m)):=by
 apply Nat.eq_of_testBit_eq;intro i;rw[Nat.testBit_and];apply Bool.eq_iff_iff.mpr;rw[Bool.and_eq_true,eX,eX,eX];constructor
 ·rintro⟨⟨x,hx,ex⟩,y,hy,ey⟩;have e:=inj x (hl x hx) y (hm y hy) (ex.trans ey.symm);subst e;exact⟨x,List.mem_filter.mpr ⟨hx,decide_eq_true hy⟩,ex⟩
 ·rintro⟨x,hx,ex⟩;rw[List.mem_filter]at hx;exact⟨⟨x,hx.1,ex⟩,x,of_decide_eq_true hx.2,ex⟩
theorem B3{bit:ae->Nat}{l:List ae}:aT bit l=0↔l=[]:=by
 constructor
 ·intro h;cases l with
  |nil=>rfl
  |cons x l=>have:=(eX (bit:=bit) (i:=bit x) (l:=x::l)).mpr ⟨x,by simp,rfl⟩;rw[h]at this;simp at this
 ·rintro rfl;rfl
theorem kF{bit:ae->Nat}{gs l m:List ae}(inj:D2 bit gs)(hl:∀x∈l,x∈gs)(hm:∀x∈m,x∈gs):aT bit l&&&aT bit m≠0↔∃x∈l,x∈m:=by rw[wc inj hl hm,Ne,B3,List.filter_eq_nil_iff];simp
theorem dh{bit:ae->Nat}{gs m:List ae}(inj:D2 bit gs){x:ae}(hx:x∈gs)(hm:∀x∈m,x∈gs):2^bit x&&&aT bit m≠0↔x∈m:=by rw[<-vQ,kF inj (by simpa using hx) hm];simp
theorem zq{bit:ae->Nat}{gs m:List ae}(inj:D2 bit gs){x:ae}(hx:x∈gs)(hm:∀x∈m,x∈gs):aT bit m&&&2^bit x≠0↔x∈m:=by rw[Nat.and_comm];exact dh inj hx hm
theorem DE{bit:ae->Nat}{gs m:List ae}(inj:D2 bit gs){x:ae}(hx:x∈m)(hm:∀x∈m,x∈gs):aT bit m^^^2^bit x=aT bit (m.filter fun y=>decide (y≠x)):=by
 apply Nat.eq_of_testBit_eq;intro i;rw[Nat.testBit_xor];apply Bool.eq_iff_iff.mpr;rw[eX];by_cases e:bit x=i
 ·have t1:(aT bit m).testBit i=true:=eX.mpr ⟨x,hx,e⟩;have t2:(2^bit x).testBit i=true:=(pz _ _).mpr e;rw[t1,t2];simp only[Bool.xor_self,Bool.false_eq_true,false_iff];rintro⟨y,hy,ey⟩;rw[List.mem_filter]at hy;exact of_decide_eq_true hy.2 (inj y (hm y hy.1) x (hm x hx) (ey.trans e.symm))
 ·have t2:(2^bit x).testBit i=false:=by
   cases q:(2^bit x).testBit i with
   |false=>rfl
   |true=>exact absurd ((pz _ _).mp q) e
  rw[t2,Bool.xor_false,eX];constructor
  ·rintro⟨y,hy,ey⟩;exact⟨y,List.mem_filter.mpr ⟨hy,decide_eq_true fun c=>e (c▸ey)⟩,ey⟩
  ·rintro⟨y,hy,ey⟩;exact⟨y,(List.mem_filter.mp hy).1,ey⟩
theorem xa:∀u:Nat,∃i,(u+1)-((u+1)&&&u)=2^i/\u.testBit i=false
 |0=>⟨0,by decide,by decide⟩
 |u+1=>by
  rcases Nat.mod_two_eq_zero_or_one (u+1)with c|c
  ·refine⟨0,?_,?_⟩
   ·have h:(u+1+1&&&(u+1))=u+1:=by
     apply Nat.eq_of_testBit_eq;intro i;obtain⟨v,hv⟩:∃v,u+1=2*v:=⟨(u+1)/2,by omega⟩
     rw[Nat.testBit_and,hv];cases i with
     |zero=>simp
     |succ i=>rw[Nat.testBit_succ,Nat.testBit_succ,show(2*v+1)/2=v by omega,show(2*v)/2=v by omega,Bool.and_self]
    rw[h];simp
   ·rw[Nat.testBit_zero];simp[c]
  ·obtain⟨v,hv⟩:∃v,u+1=2*v+1:=⟨u/2,by omega⟩
   have lt:v<u+1:=by omega
   obtain⟨i,hi,ht⟩:=xa v;refine⟨i+1,?_,?_⟩
   ·have h:(2*v+1+1&&&(2*v+1))=2*((v+1)&&&v):=by
     apply Nat.eq_of_testBit_eq;intro j;rw[Nat.testBit_and];cases j with
     |zero=>
      rw[Nat.testBit_zero,Nat.testBit_zero,Nat.testBit_zero];have:(2*v+1+1)%2=0:=by omega
      have h2:(2*(v+1&&&v))%2=0:=by omega
      simp[this,h2]
     |succ j=>rw[Nat.testBit_succ,Nat.testBit_succ,Nat.testBit_succ,show(2*v+1+1)/2=v+1 by omega,show(2*v+1)/2=v by omega,show(2*(v+1&&&v))/2=(v+1&&&v) by omega,Nat.testBit_and]
    rw[hv,h,Nat.pow_succ,<-hi];have:(v+1&&&v)<=v:=Nat.and_le_right;omega
   ·rw[hv,Nat.testBit_succ,show(2*v+1)/2=v by omega];exact ht
def opt(d:Bool)(g:ae):List ae:=if d then g.right else g.left
@[simp] theorem qo (g:ae):opt false g=g.left:=rfl
@[simp] theorem qf (g:ae):opt true g=g.right:=rfl
def good(d:Bool)(x y:ae):Prop:=if d then le y x else le x y
@[simp] theorem Hv (x y:ae):good false x y=le x y:=rfl
@[simp] theorem G9 (x y:ae):good true x y=le y x:=rfl
theorem mw(d:Bool)(x:ae):good d x x:=by cases d<;>exact le_refl x
theorem yH{d:Bool}{x y z:ae}(a:good d x y)(b:good d y z):good d x z:=by
 cases d
 ·exact le_trans (y:=y) a b
 ·exact le_trans (y:=y) b a
theorem uE{d:Bool}{x y:ae}:good (!d) x y↔good d y x:=by cases d<;>exact Iff.rfl
theorem Bq{d:Bool}{x y:ae}(lx:bc x)(ly:bc y)(a:good d x y)(b:good d y x):x=y:=by
 cases d
 ·exact fc lx ly ⟨a,b⟩
 ·exact fc lx ly ⟨b,a⟩
theorem jS{d:Bool}{x g:ae}(h:x∈opt d g):before x g:=by
 cases d
 ·exact kE (l7 h)
 ·exact kE (jZ h)
theorem kD{d:Bool}{x g:ae}(h:x∈opt d g):born x<born g:=by
 cases d
 ·exact l7 h
 ·exact jZ h
theorem wY{d:Bool}{x y z:ae}(h:good d x y)(m:z∈opt d x):¬good d y z:=by
 cases d
 ·exact(bO.mp (show le x y from h)).1 z m
 ·exact(bO.mp (show le y x from h)).2 z m
theorem wd{d:Bool}{x g:ae}(m:x∈opt d g):¬good d g x:=wY (mw d g) m
structure gm(gs:List ae)(bit:ae->Nat):Prop where
 rise:gs.Pairwise before
 least:∀x∈gs,bc x
 opts:∀x∈gs,∀d,∀y∈opt d x,y∈gs
 inj:D2 bit gs
section
variable{gs:List ae}{bit:ae->Nat}
theorem gm.nodup(h:gm gs bit):gs.Nodup:=h.rise.imp fun{a b}q e=>by subst e;exact bE a q
theorem gm.part(h:gm gs bit){x p:ae}(hx:x∈gs)(hp:az p x):p∈gs:=by
 induction hp with
 |refl=>exact hx
 |left y g hy _ ih=>exact ih (h.opts g hx false y hy)
 |right y g hy _ ih=>exact ih (h.opts g hx true y hy)
theorem gm.anti(h:gm gs bit){x y:ae}(hx:x∈gs)(hy:y∈gs)(a:le x y)(b:le y x):x=y:=fc (h.least x hx) (h.least y hy) ⟨a,b⟩
theorem gm.ahead(h:gm gs bit){pre post:List ae}{p y:ae}(e:gs=pre++p::post){d:Bool}(hy:y∈opt d p):y∈pre:=by
 have hp:p∈gs:=by rw[e];simp
 have m:=h.opts p hp d y hy;rw[e]at m;have b:=jS hy;rcases List.mem_append.mp m with m|m
 ·exact m
 ·rcases List.mem_cons.mp m with rfl|m
  ·exact absurd b (bE _)
  ·have r:=h.rise;rw[e]at r;have:=(List.pairwise_cons.mp (List.pairwise_append.mp r).2.1).1 y m;exact absurd b (eZ this)
theorem DL(h:gm gs bit){ls rs pre post:List ae}{p:ae}(e:gs=pre++p::post):le (.mk ls rs) p↔¬(∃l∈ls,le p l)/\¬∃w∈p.right,w∈pre/\le w (.mk ls rs):=by
 rw[bO];constructor
 ·rintro⟨a,b⟩;exact⟨fun⟨l,hl,q⟩=>a l hl q,fun⟨w,hw,_,q⟩=>b w hw q⟩
 ·rintro⟨a,b⟩;exact⟨fun l hl q=>a ⟨l,hl,q⟩,fun w hw q=>b ⟨w,hw,h.ahead e (d:=true) hw,q⟩⟩
theorem Bz(h:gm gs bit){ls rs pre post:List ae}{p:ae}(e:gs=pre++p::post):le p (.mk ls rs)↔¬(∃r∈rs,le r p)/\¬∃u∈p.left,u∈pre/\le (.mk ls rs) u:=by
 rw[bO];constructor
 ·rintro⟨a,b⟩;exact⟨fun⟨l,hl,q⟩=>b l hl q,fun⟨w,hw,_,q⟩=>a w hw q⟩
 ·rintro⟨a,b⟩;exact⟨fun w hw q=>b ⟨w,hw,h.ahead e (d:=false) hw,q⟩,fun l hl q=>a ⟨l,hl,q⟩⟩
inductive wy(d:Bool)(g:ae)(l:List ae):ae->Prop where
 |under (x y:ae):y∈l->good d x y->wy d g l x
 |back (x w:ae):w∈opt (!d) x->good (!d) g w->(∀z∈opt d w,wy d g l z)->wy d g l x
theorem wy.l{g:ae}{l:List ae}{x:ae}(h:wy false g l x):oW g l x:=by
 induction h with
 |under x y a b=>exact .under x y a b
 |back x w a b _ ih=>exact .back x w a b ih
theorem wy.r{g:ae}{l:List ae}{x:ae}(h:wy true g l x):pj g l x:=by
 induction h with
 |under x y a b=>exact .over x y a b
 |back x w a b _ ih=>exact .back x w a b ih
structure fK(gs:List ae)(d:Bool)(g:ae)(ls fin B:List ae):Prop where
 sub:∀y∈B,y∈gs
 legit:∀y∈B,¬good d g y
 hand:∀L:List ae,(∀y∈B,wy d g L y)->∀x∈ls,wy d g L x
 done:∀y∈B,y∈fin->∀w∈opt (!d) y,¬good (!d) g w
theorem fK.start{d:Bool}{g:ae}(hl:∀x∈opt d g,x∈gs):fK gs d g (opt d g) [] (opt d g):=⟨hl,fun y hy=>wd hy,fun _ h x hx=>h x hx,fun y _ hy=>by cases hy⟩
theorem fK.stay{d:Bool}{g:ae}{ls fin B:List ae}(I:fK gs d g ls fin B){p:ae}(h:p∈B->∀w∈opt (!d) p,¬good (!d) g w):fK gs d g ls (p::fin) B:=⟨I.sub,I.legit,I.hand,fun y hy hf=>by
  rcases List.mem_cons.mp hf with rfl|hf
  ·exact h hy
  ·exact I.done y hy hf⟩
theorem fK.back(h:gm gs bit){d:Bool}{g:ae}{ls fin B:List ae}(I:fK gs d g ls fin B){pre:List ae}{p:ae}(e:gs=pre++p::fin) {w:ae} (hw:w∈opt (!d) p) (hg:good (!d) g w):fK gs d g ls (p::fin) ((B.filter fun y=>decide (y≠p))++opt d w):=by
 have hp:p∈gs:=by rw[e];simp
 have hwg:w∈gs:=h.opts p hp _ w hw;refine⟨?_,?_,?_,?_⟩
 ·intro y hy;rcases List.mem_append.mp hy with hy|hy
  ·exact I.sub y (List.mem_filter.mp hy).1
  ·exact h.opts w hwg d y hy
 ·intro y hy;rcases List.mem_append.mp hy with hy|hy
  ·exact I.legit y (List.mem_filter.mp hy).1
  ·exact wY (uE.mp hg) hy
 ·intro L hL;refine I.hand L fun y hy=>?_;by_cases c:y=p
  ·subst c;exact .back y w hw hg fun z hz=>hL z (List.mem_append.mpr (.inr hz))
  ·exact hL y (List.mem_append.mpr (.inl (List.mem_filter.mpr ⟨hy,decide_eq_true c⟩)))
 ·intro y hy hf;rcases List.mem_append.mp hy with hy|hy
  ·rw[List.mem_filter]at hy;rcases List.mem_cons.mp hf with rfl|hf
   ·exact absurd rfl (of_decide_eq_true hy.2)
   ·exact I.done y hy.1 hf
  ·have b:before y p:=jv (jS hy) (jS hw);rcases List.mem_cons.mp hf with rfl|hf
   ·exact absurd b (bE _)
   ·have r:=h.rise;rw[e]at r;have:=(List.pairwise_cons.mp (List.pairwise_append.mp r).2.1).1 y hf;exact absurd b (eZ this)
noncomputable def cV(gs:List ae)(d:Bool)(B:List ae):List ae:=(gs.filter fun p=>decide (p∈B)).filter fun p=>decide (∀y∈B,good d p y->y=p)
theorem iP{d:Bool}{B:List ae}{x:ae}:x∈cV gs d B↔x∈gs/\x∈B/\∀y∈B,good d x y->y=x:=by unfold cV;rw[List.mem_filter,List.mem_filter,decide_eq_true_eq,decide_eq_true_eq,and_assoc]
theorem qj(h:gm gs bit){d:Bool}{B:List ae}(hB:∀y∈B,y∈gs){x:ae}(hx:x∈B):∃y∈cV gs d B,good d x y:=by
 obtain⟨y,hy,hm⟩:=vD (lt:=fun a b=>b≠a/\good d a b) (fun a=>a∈gs) (fun x q=>q.1 rfl) (fun a b c pa pb pc p q=>⟨fun e=>by subst e;exact p.1 (Bq (h.least _ pb) (h.least _ pa) q.2 p.2),yH p.2 q.2⟩) B hB x (hB x hx)
 have yB:y∈B:=by
  rcases hy with rfl|⟨q,_⟩
  ·exact hx
  ·exact q
 refine⟨y,iP.mpr ⟨hB y yB,yB,fun z hz q=>?_⟩,?_⟩
 ·apply byContradiction;intro ne;exact hm z hz ⟨ne,q⟩
 ·rcases hy with rfl|⟨_,_,q⟩
  ·exact mw d _
  ·exact q
theorem Bx(h:gm gs bit){ls rs Bl Br:List ae}(Il:fK gs false (.mk ls rs) ls gs Bl)(Ir:fK gs true (.mk ls rs) rs gs Br):ae.mk (cV gs false Bl) (cV gs true Br)=aq (.mk ls rs):=by
 have fl:∀x,x∈cV gs false Bl↔x∈gs/\x∈Bl/\∀y∈Bl,good false x y->y=x:=fun x=>iP;have fr:∀x,x∈cV gs true Br↔x∈gs/\x∈Br/\∀y∈Br,good true x y->y=x:=fun x=>iP
 have he:eqv (.mk ls rs) (.mk (cV gs false Bl) (cV gs true Br)):=by
  refine xH (fun y hy=>Il.legit y ((fl y).mp hy).2.1) (fun y hy=>Ir.legit y ((fr y).mp hy).2.1) (fun x hx=>?_) fun x hx=>?_
  ·refine(Il.hand _ (fun z hz=>?_) x hx).l;obtain⟨u,hu,q⟩:=qj h (d:=false) Il.sub hz;exact .under _ u hu q
  ·refine(Ir.hand _ (fun z hz=>?_) x hx).r;obtain⟨u,hu,q⟩:=qj h (d:=true) Ir.sub hz;exact .under _ u hu q
 refine cC ?_ he.symm;refine .mk _ ?_ ?_ ?_ ?_ ?_ ?_ ?_ ?_
 ·intro x hx;exact h.least x ((fl x).mp hx).1
 ·intro x hx;exact h.least x ((fr x).mp hx).1
 ·intro x hx y hy q;exact(((fl x).mp hx).2.2 y ((fl y).mp hy).2.1 q).symm
 ·intro x hx y hy q;exact((fr y).mp hy).2.2 x ((fr x).mp hx).2.1 q
 ·intro x hx w hw q;exact Il.done x ((fl x).mp hx).2.1 ((fl x).mp hx).1 w hw (he.le_right.mpr q)
 ·intro x hx w hw q;exact Ir.done x ((fr x).mp hx).2.1 ((fr x).mp hx).1 w hw (he.le_left.mpr q)
 ·exact(h.rise.filter _).filter _
 ·exact(h.rise.filter _).filter _
end
def BL:List Int->List Int->Bool
 |[],[]=>false
 |[],_::_=>true
 |_::_,[]=>false
 |x::xs,y::ys=>if x=y then BL xs ys else decide (x<y)
theorem xS:∀l:List Int,BL l l=false
 |[]=>rfl
 |x::l=>by rw[BL,if_pos rfl];exact xS l
noncomputable def plc(gs:List ae)(x:ae):Nat:=gs.findIdx fun y=>decide (y=x)
theorem p9{gs:List ae}{x:ae}(h:x∈gs):gs[plc gs x]?=some x/\plc gs x<gs.length:=by have lt:plc gs x<gs.length:=List.findIdx_lt_length_of_exists ⟨x,h,by simp⟩;refine⟨?_,lt⟩;rw[List.getElem?_eq_getElem lt];have:=List.findIdx_getElem (w:=lt);rw[decide_eq_true_eq]at this;exact congrArg some this
section
variable{gs:List ae}{bit:ae->Nat}
theorem oa(h:gs.Pairwise before){i j:Nat}{x y:ae}(hi:gs[i]?=some x)(hj:gs[j]?=some y)(lt:i<j):before x y:=by
 have h1:=(List.getElem?_eq_some_iff.mp hi)
 have h2:=(List.getElem?_eq_some_iff.mp hj)
 obtain⟨a,rfl⟩:=h1;obtain⟨b,rfl⟩:=h2;exact List.pairwise_iff_getElem.mp h i j a b lt
theorem BP(h:gs.Pairwise before){x y:ae}(hx:x∈gs)(hy:y∈gs):plc gs x<plc gs y↔before x y:=by
 have ax:=p9 hx;have ay:=p9 hy;constructor
 ·exact oa h ax.1 ay.1
 ·intro b;rcases Nat.lt_trichotomy (plc gs x) (plc gs y)with c|c|c
  ·exact c
  ·rw[c,ay.1]at ax;have:=Option.some.inj ax.1;subst this;exact absurd b (bE _)
  ·exact absurd (oa h ay.1 ax.1 c) (eZ b)
theorem D_{x y:ae}(hx:x∈gs)(hy:y∈gs)(e:plc gs x=plc gs y):x=y:=by have ax:=(p9 hx).1;rw[e,(p9 hy).1]at ax;exact(Option.some.inj ax).symm
noncomputable def dz(gs l:List ae):List Int:=l.map fun x=>((plc gs x:Nat):Int)
theorem BI{x y:ae}{l m:List ae}:dv (x::l) (y::m)=(tJ x y).then (dv l m):=by rw[dv]
theorem pH(h:gs.Pairwise before):∀{l m:List ae},(∀x∈l,x∈gs)->(∀x∈m,x∈gs)->(dv l m=.lt↔BL (dz gs l) (dz gs m)=true)/\(dv l m=.eq↔dz gs l=dz gs m)
 |[],[],_,_=>by simp[dv,dz,BL]
 |[],_::_,_,_=>by simp[dv,dz,BL]
 |_::_,[],_,_=>by simp[dv,dz,BL]
 |x::l,y::m,hl,hm=>by
  have ih:=pH h (l:=l) (m:=m) (fun z hz=>hl z (by simp[hz])) (fun z hz=>hm z (by simp[hz]));have hx:=hl x (by simp);have hy:=hm y (by simp);have ep:dz gs (x::l)=((plc gs x:Nat):Int)::dz gs l:=rfl;have eq:dz gs (y::m)=((plc gs y:Nat):Int)::dz gs m:=rfl;rw[BI,ep,eq,BL,cZ,jR,List.cons.injEq];by_cases c:x=y
  ·subst c;rw[if_pos rfl,rY];simp only[reduceCtorEq,false_or,true_and];exact ih
  ·have ne:¬((plc gs x:Nat):Int)=((plc gs y:Nat):Int):=fun e=>c (D_ hx hy (by omega));have ne':¬tJ x y=.eq:=fun e=>c ((iU x y).mp e);rw[if_neg ne];refine⟨?_,?_⟩
   ·rw[decide_eq_true_eq];constructor
    ·rintro(b|b)
     ·have:=(BP h hx hy).mpr b;omega
     ·exact absurd b.1 ne'
    ·intro b;exact .inl ((BP h hx hy).mp (by omega))
   ·constructor
    ·rintro⟨b,_⟩;exact absurd b ne'
    ·rintro⟨b,_⟩;exact absurd b ne
noncomputable def xZ(gs:List ae)(g h:ae):Bool:=if born g=born h then(if dz gs g.left=dz gs h.left then(if dz gs g.right=dz gs h.right then false else BL (dz gs g.right) (dz gs h.right))else BL (dz gs g.left) (dz gs h.left))else decide (born g<born h)
theorem uk(hr:gs.Pairwise before){g h:ae}(hg:∀d,∀x∈opt d g,x∈gs)(hh:∀d,∀x∈opt d h,x∈gs):xZ gs g h=true↔before g h:=by
 have L:=pH hr (hg false) (hh false);have R:=pH hr (hg true) (hh true);simp only[qo,qf]at L R;unfold xZ before;rw[jJ,cZ,cZ];by_cases c:born g=born h
 ·rw[if_pos c,c];have e1:compare (born h) (born h)=.eq:=by simp
  simp only[e1,reduceCtorEq,false_or,true_and];by_cases c1:dz gs g.left=dz gs h.left
  ·rw[if_pos c1,L.2.mpr c1];simp only[reduceCtorEq,false_or,true_and];by_cases c2:dz gs g.right=dz gs h.right
   ·rw[if_pos c2,R.2.mpr c2];simp
   ·rw[if_neg c2];exact R.1.symm
  ·rw[if_neg c1];constructor
   ·intro q;exact .inl (L.1.mpr q)
   ·rintro(q|⟨q,_⟩)
    ·exact L.1.mp q
    ·exact absurd (L.2.mp q) c1
 ·rw[if_neg c,decide_eq_true_eq];constructor
  ·intro q;exact .inl (Nat.compare_eq_lt.mpr q)
  ·rintro(q|⟨q,_⟩)
   ·exact Nat.compare_eq_lt.mp q
   ·exact absurd (Nat.compare_eq_eq.mp q) c
theorem Bp(h:gm gs bit){g:ae}(hg:g∉gs)(lg:bc g)(og:∀d,∀x∈opt d g,x∈gs){k:Nat}(hk:k<=gs.length) (lo:∀x,0<k->gs[k-1]?=some x->¬before g x) (hi:∀j x,k<=j->gs[j]?=some x->before g x) {bit':ae->Nat} (eb:∀x∈gs,bit' x=bit x) (nb:∀x∈gs,bit x≠bit' g):gm (gs.take k++g::gs.drop k) bit':=by
 have mem:∀x,x∈gs.take k++g::gs.drop k↔x=g\/x∈gs:=by
  intro x;rw[List.mem_append,List.mem_cons];conv=>rhs;rw[<-List.take_append_drop k gs,List.mem_append]
  constructor
  ·rintro(a|a|a)<;>simp[a]
  ·rintro(a|a|a)<;>simp[a]
 refine⟨?_,?_,?_,?_⟩
 ·rw[List.pairwise_append,List.pairwise_cons];have r:=h.rise;rw[<-List.take_append_drop k gs,List.pairwise_append]at r
  have lt:∀x∈gs.take k,before x g:=by
   intro x hx;obtain⟨i,hi'⟩:=List.mem_iff_getElem?.mp hx;have ik:i<k:=by have:=(List.getElem?_eq_some_iff.mp hi').1;rw[List.length_take]at this;omega
   rw[List.getElem?_take_of_lt ik]at hi';obtain⟨y,hy⟩:∃y,gs[k-1]?=some y:=⟨_,List.getElem?_eq_getElem (by omega)⟩
   have ny:=lo y (by omega) hy;have my:y∈gs:=List.mem_of_getElem? hy
   have yg:before y g:=by
    rcases o3 g y with c|c|c
    ·exact absurd c ny
    ·subst c;exact absurd my hg
    ·exact c
   by_cases c:i=k-1
   ·rw[c,hy]at hi';rw[<-Option.some.inj hi'];exact yg
   ·exact jv (oa h.rise hi' hy (by omega)) yg
  have gt:∀x∈gs.drop k,before g x:=by intro x hx;obtain⟨i,hi'⟩:=List.mem_iff_getElem?.mp hx;rw[List.getElem?_drop]at hi';exact hi (k+i) x (by omega) hi'
  refine⟨r.1,⟨gt,r.2.1⟩,fun x hx y hy=>?_⟩;rcases List.mem_cons.mp hy with rfl|hy
  ·exact lt x hx
  ·exact r.2.2 x hx y hy
 ·intro x hx;rcases(mem x).mp hx with rfl|hx
  ·exact lg
  ·exact h.least x hx
 ·intro x hx d y hy;rw[mem];rcases(mem x).mp hx with rfl|hx
  ·exact .inr (og d y hy)
  ·exact .inr (h.opts x hx d y hy)
 ·intro x hx y hy e;rcases(mem x).mp hx with ex|mx
  ·rcases(mem y).mp hy with ey|my
   ·rw[ex,ey]
   ·rw[ex,eb y my]at e;exact absurd e.symm (nb y my)
  ·rcases(mem y).mp hy with ey|my
   ·rw[ey,eb x mx]at e;exact absurd e (nb x mx)
   ·rw[eb x mx,eb y my]at e;exact h.inj x mx y my e
theorem zD{k:Nat}{g x:ae}:x∈gs.take k++g::gs.drop k↔x=g\/x∈gs:=by
 rw[List.mem_append,List.mem_cons];conv=>rhs;rw[<-List.take_append_drop k gs,List.mem_append]
 constructor
 ·rintro(a|a|a)<;>simp[a]
 ·rintro(a|a|a)<;>simp[a]
theorem DM(h:gm gs bit){S:ae->Prop}(cl:∀x∈gs,S x->∀d,∀y∈opt d x,S y):gm (gs.filter fun x=>decide (S x)) bit:=by
 refine⟨h.rise.filter _,?_,?_,?_⟩
 ·intro x hx;exact h.least x (List.mem_filter.mp hx).1
 ·intro x hx d y hy;rw[List.mem_filter,decide_eq_true_eq]at hx⊢;exact⟨h.opts x hx.1 d y hy,cl x hx.1 hx.2 d y hy⟩
 ·intro x hx y hy e;exact h.inj x (List.mem_filter.mp hx).1 y (List.mem_filter.mp hy).1 e
def optC(g:ae):Nat:=g.left.length+g.right.length
theorem fP(x:ae)(l:List ae):optCount (x::l)=optC x+optCount l:=by simp[optCount,optC]
theorem j2(l m:List ae):optCount (l++m)=optCount l+optCount m:=by simp[optCount,List.map_append]
theorem j_{k:Nat}{g:ae}:optCount (gs.take k++g::gs.drop k)=optCount gs+optC g:=by
 rw[j2,fP];conv=>rhs;rw[<-List.take_append_drop k gs,j2]
 omega
theorem tR{k:Nat}{g:ae}(hk:k<=gs.length):(gs.take k++g::gs.drop k).length=gs.length+1:=by rw[List.length_append,List.length_cons,List.length_take,List.length_drop];omega
theorem BY{Q:ae->Prop}{L:List ae}(hn:L.Nodup)(h1:L.length<=96)(h2:optCount L<=1024)(h:∀x,Q x->∀p,az p x->p∈L):b7 Q:=by
 have ip:dQ (L.filter fun g=>decide (∃x,Q x/\az g x)) Q:=by
  refine⟨hn.filter _,fun p=>?_⟩;rw[List.mem_filter,decide_eq_true_eq];constructor
  ·exact fun q=>q.2
  ·rintro⟨x,hx,hp⟩;exact⟨h x hx p hp,x,hx,hp⟩
 refine⟨_,ip,Nat.le_trans (List.length_filter_le _ _) h1,?_⟩;exact Nat.le_trans (gj (hn.filter _) fun x hx=>(List.mem_filter.mp hx).1) h2
theorem o_{Q:ae->Prop}{L:List ae}(hn:L.Nodup){g:ae}(hg:g∉L)(h:∀p∈L,∃x,Q x/\az p x)(hq:∃x,Q x/\az g x)(c:96<=L.length\/1024<optCount L+optC g):¬b7 Q:=by
 intro r;have n2:(g::L).Nodup:=List.nodup_cons.mpr ⟨hg,hn⟩
 have h2:∀p∈g::L,∃x,Q x/\az p x:=by
  intro p hp;rcases List.mem_cons.mp hp with rfl|hp
  ·exact hq
  ·exact h p hp
 have l1:=r.length_le n2 h2;have l2:=r.options_le n2 h2;rw[List.length_cons]at l1;rw[fP]at l2;omega
theorem rC{g p:ae}:p∈ao g↔p=g\/∃d,∃y∈opt d g,p∈ao y:=by
 rw[aP];constructor
 ·intro h;cases h with
  |refl=>exact .inl rfl
  |left x _ hx hp=>exact .inr ⟨false,x,hx,aP.mpr hp⟩
  |right x _ hx hp=>exact .inr ⟨true,x,hx,aP.mpr hp⟩
 ·rintro(rfl|⟨d,y,hy,hp⟩)
  ·exact .refl
  ·cases d
   ·exact .left y g hy (aP.mp hp)
   ·exact .right y g hy (aP.mp hp)
end
end Gth
namespace Gth
open Classical Gw
theorem jX(k:Nat)(a:Int):∀j:Nat,aF (k+j) (a*2^j)=aF k a
 |0=>by simp
 |j+1=>by rw[<-Nat.add_assoc,show a*2^(j+1)=2*(a*2^j) by rw[Int.pow_succ,<-Int.mul_assoc,Int.mul_comm],aY,jX k a j]
theorem mh:∀(j k:Nat)(a r:Int),0<r->r<2^j->az (aF k a) (aF (k+j) (a*2^j+r))/\az (aF k (a+1)) (aF (k+j) (a*2^j+r))
 |0,k,a,r,h1,h2=>by simp at h2;omega
 |j+1,k,a,r,h1,h2=>by
  have o:=dI k a;have hl:aF k a∈(aF (k+1) (2*a+1)).left:=by rw[o];simp
  have hr:aF k (a+1)∈(aF (k+1) (2*a+1)).right:=by rw[o];simp
  have p2:(2:Int)^(j+1)=2*2^j:=by rw[Int.pow_succ,Int.mul_comm]
  have e0:a*2^(j+1)=2*a*2^j:=by rw[p2,<-Int.mul_assoc,Int.mul_comm a 2]
  have ek:k+(j+1)=k+1+j:=by omega
  rw[ek,e0];rcases Int.lt_trichotomy r (2^j)with c|c|c
  ·obtain⟨p,q⟩:=mh j (k+1) (2*a) r h1 c;rw[aY]at p;exact⟨p,az.trans (.right _ _ hr .refl) q⟩
  ·have e:2*a*2^j+r=(2*a+1)*2^j:=by rw[Int.add_mul,c,Int.one_mul]
   rw[e,jX];exact⟨.left _ _ hl .refl,.right _ _ hr .refl⟩
  ·have e:2*a*2^j+r=(2*a+1)*2^j+(r-2^j):=by rw[Int.add_mul,Int.one_mul];omega
   obtain⟨p,q⟩:=mh j (k+1) (2*a+1) (r-2^j) (by omega) (by omega);rw[<-e]at p q;rw[show 2*a+1+1=2*(a+1) by omega,aY]at q;exact⟨az.trans (.left _ _ hl .refl) p,q⟩
def sg(neg:Bool)(x:Int):Int:=if neg then -x else x
def G0(neg:Bool)(l r:List ae):ae:=if neg then .mk r l else .mk l r
theorem qV(neg:Bool){j k:Nat}{a r:Int}(h1:0<r)(h2:r<2^j):az (aF k (sg neg a)) (aF (k+j) (sg neg (a*2^j+r)))/\az (aF k (sg neg (a+1))) (aF (k+j) (sg neg (a*2^j+r))):=by
 cases neg
 ·exact mh j k a r h1 h2
 ·have:=mh j k (-(a+1)) (2^j-r) (by omega) (by omega);have e:-(a+1)*2^j+(2^j-r) = -(a*2^j+r):=by rw[Int.neg_mul,Int.add_mul,Int.one_mul];omega
  rw[e,show -(a+1)+1 = -a by omega]at this;exact⟨this.2,this.1⟩
theorem AN(neg:Bool)(k:Nat)(a:Int):G0 neg [aF k (sg neg a)] [aF k (sg neg (a+1))]=aF (k+1) (sg neg (2*a+1)):=by
 cases neg
 ·exact(dI k a).symm
 ·have:=dI k (-(a+1));show ae.mk [aF k (-(a+1))] [aF k (-a)]=aF (k+1) (-(2*a+1));rw[show -(2*a+1)=2 * -(a+1)+1 by omega,this,show -(a+1)+1 = -a by omega]
theorem AD(neg:Bool)(i:Nat):G0 neg [aF 0 (sg neg i)] []=aF 0 (sg neg ((i:Int)+1)):=by
 cases neg
 ·show ae.mk [gJ i] []=gJ ((i:Int)+1);rw[dH,show(i:Int)+1=((i+1:Nat):Int) by omega,dH];rfl
 ·show ae.mk [] [gJ (-(i:Int))]=gJ (-((i:Int)+1));rw[dF,show -((i:Int)+1) = -((i+1:Nat):Int) by omega,dF];rfl
theorem wJ(neg:Bool):aF 0 (sg neg 0)=aM:=by cases neg<;>rfl
theorem x_(neg:Bool){i n:Nat}(h:i<=n):az (aF 0 (sg neg i)) (aF 0 (sg neg n)):=by
 cases neg
 ·show az (gJ i) (gJ n);rw[dH,dH];exact pS n i h
 ·show az (gJ (-(i:Int))) (gJ (-(n:Int)));rw[dF,dF];exact pw n i h
theorem yU(neg:Bool){k i n:Nat}{r:Int}(h:i<=n)(h1:0<=r)(h2:r<2^k):az (aF 0 (sg neg i)) (aF k (sg neg ((n:Int)*2^k+r))):=by
 refine az.trans (x_ neg h) ?_;by_cases c:r=0
 ·subst c;have e:sg neg ((n:Int)*2^k+0)=sg neg n*2^k:=by cases neg<;>simp[sg,Int.neg_mul]
  have:=jX 0 (sg neg n) k;rw[Nat.zero_add]at this;rw[e,this];exact .refl
 ·have:=(qV neg (j:=k) (k:=0) (a:=n) (r:=r) (by omega) h2).1;rwa [Nat.zero_add]at this
theorem A5{seen W:List ae}{x:ae}(h:x∈seen):bg seen (x::W)=bg seen W:=by rw[bg,pF h]
theorem A8{seen W:List ae}{x:ae}(h:x∉seen):bg seen (x::W)=bg (seen++[x]) (x.left++x.right++W):=by rw[bg,jC h,fT,fT]
theorem xT(g:ae):bg [] [g]=ao g:=by rw[bg,bg];rfl
inductive cJ(rows:List (List Nat×List Nat)):List Nat->Prop where
 |nil:cJ rows []
 |snoc (t:List Nat) (i:Nat) (l r:List Nat):cJ rows t->rows[i]?=some (l,r)->i∉t->(∀j∈l,j∈t)->(∀j∈r,j∈t)->cJ rows (t++[i])
def qp(rows:List (List Nat×List Nat))(t:List Nat)(fm:Nat->ae):Prop:=∀i∈t,∀l r,rows[i]?=some (l,r)->fm i=aq (.mk (l.map fm) (r.map fm))
theorem cJ.opts{rows:List (List Nat×List Nat)}{t:List Nat}(h:cJ rows t):∀i∈t,∃l r,rows[i]?=some (l,r)/\(∀j∈l,j∈t)/\∀j∈r,j∈t:=by
 induction h with
 |nil=>intro i hi;cases hi
 |snoc t i l r _ e _ hl hr ih=>
  intro j hj;rcases List.mem_append.mp hj with hj|hj
  ·obtain⟨l',r',e',a,b⟩:=ih j hj;exact⟨l',r',e',fun z hz=>List.mem_append.mpr (.inl (a z hz)),fun z hz=>List.mem_append.mpr (.inl (b z hz))⟩
  ·rw[List.mem_singleton]at hj;subst hj;exact⟨l,r,e,fun z hz=>List.mem_append.mpr (.inl (hl z hz)),fun z hz=>List.mem_append.mpr (.inl (hr z hz))⟩
theorem cJ.nodup{rows:List (List Nat×List Nat)}{t:List Nat}(h:cJ rows t):t.Nodup:=by
 induction h with
 |nil=>simp
 |snoc t i l r _ _ n _ _ ih=>exact List.nodup_append.mpr ⟨ih,by simp,fun a ha b hb=>by rw[List.mem_singleton]at hb;subst hb;intro e;subst e;exact n ha⟩
theorem cJ.tells{rows:List (List Nat×List Nat)}{t:List Nat}(h:cJ rows t):∃fm,qp rows t fm:=by
 induction h with
 |nil=>exact⟨fun _=>aM,fun i hi=>by cases hi⟩
 |snoc t i l r ht e n hl hr ih=>
  obtain⟨fm,hf⟩:=ih;refine⟨fun j=>if j=i then aq (.mk (l.map fm) (r.map fm))else fm j,?_⟩;have same:∀m:List Nat,(∀j∈m,j∈t)->m.map (fun j=>if j=i then aq (.mk (l.map fm) (r.map fm))else fm j)=m.map fm:=by intro m hm;refine List.map_congr_left fun j hj=>if_neg fun q=>?_;subst q;exact n (hm j hj)
  intro j hj l' r' e';rcases List.mem_append.mp hj with hj|hj
  ·have ne:j≠i:=fun q=>n (q▸hj);show(if j=i then aq (.mk (l.map fm) (r.map fm))else fm j)=_;rw[if_neg ne];obtain⟨l2,r2,e2,a,b⟩:=ht.opts j hj;rw[e']at e2;cases e2;rw[same _ a,same _ b];exact hf j hj l' r' e'
  ·rw[List.mem_singleton]at hj;subst hj;rw[e]at e';cases e';show(if j=j then aq (.mk (l.map fm) (r.map fm))else fm j)=_;rw[if_pos rfl,same _ hl,same _ hr]
theorem cJ.unique{rows:List (List Nat×List Nat)}{t:List Nat}(h:cJ rows t){fm fm':Nat->ae}(a:qp rows t fm)(b:qp rows t fm'):∀i∈t,fm i=fm' i:=by
 induction h with
 |nil=>intro i hi;cases hi
 |snoc t i l r ht e n hl hr ih=>
  have ih:=ih (fun j hj=>a j (List.mem_append.mpr (.inl hj))) fun j hj=>b j (List.mem_append.mpr (.inl hj));intro j hj;rcases List.mem_append.mp hj with hj|hj
  ·exact ih j hj
  ·rw[List.mem_singleton]at hj;subst hj;rw[a j (by simp) l r e,b j (by simp) l r e,List.map_congr_left fun z hz=>ih z (hl z hz),List.map_congr_left fun z hz=>ih z (hr z hz)]
noncomputable def fi(g:ae):List (List Nat×List Nat):=(ao g).map (jF (ao g))
theorem cB{g:ae}:∀x∈ao g,∀d,∀y∈opt d x,y∈ao g:=by
 intro x hx d y hy;rw[aP]at *;refine az.trans ?_ hx;cases d
 ·exact .left _ _ hy .refl
 ·exact .right _ _ hy .refl
theorem qi{g:ae}(lg:bc g){t:List Nat}:qp (fi g) t fun i=>(ao g).getD i aM:=by
 intro i _ l r e;unfold fi at e;rw[List.getElem?_map,Option.map_eq_some_iff]at e;obtain⟨x,hx,e⟩:=e;have mx:x∈ao g:=List.mem_of_getElem? hx
 have back:∀d,(opt d x).map (fun y=>(ao g).getD (bW (ao g) y) aM)=opt d x:=by
  intro d;conv=>rhs;rw[<-List.map_id (opt d x)]
  refine List.map_congr_left fun y hy=>?_;rw[List.getD_eq_getElem?_getD,(cU (cB x mx d y hy)).1];rfl
 cases e;show(ao g).getD i aM=_;rw[List.getD_eq_getElem?_getD,hx,Option.getD_some,List.map_map,List.map_map];have b1:=back false;have b2:=back true;simp only[qo,qf]at b1 b2;show x=aq (.mk (x.left.map fun y=>(ao g).getD (bW (ao g) y) aM) (x.right.map fun y=>(ao g).getD (bW (ao g) y) aM));rw[b1,b2,nJ];exact(aS ((aP.mp mx).least lg)).symm
theorem Dt{g:ae}{D:Nat->Prop}{i:Nat}(hi:i<(fi g).length)(hD:¬D i):∃j l r,(fi g)[j]?=some (l,r)/\¬D j/\(∀z∈l,D z)/\∀z∈r,D z:=by
 have key:∀n:Nat,∀x i,(ao g)[i]?=some x->born x<n->¬D i->∃j l r,(fi g)[j]?=some (l,r)/\¬D j/\(∀z∈l,D z)/\∀z∈r,D z:=by
  intro n;induction n with
  |zero=>intro x i _ h;omega
  |succ n ih=>
   intro x i hx hb hn;by_cases c:∃d,∃y∈opt d x,¬D (bW (ao g) y)
   ·obtain⟨d,y,hy,hd⟩:=c;have my:=cB x (List.mem_of_getElem? hx) d y hy;exact ih y _ (cU my).1 (by have:=kD hy;omega) hd
   ·refine⟨i,(jF (ao g) x).1,(jF (ao g) x).2,by unfold fi;rw[List.getElem?_map,hx];rfl,hn,?_,?_⟩
    ·intro z hz;obtain⟨y,hy,rfl⟩:=List.mem_map.mp hz;exact byContradiction fun q=>c ⟨false,y,hy,q⟩
    ·intro z hz;obtain⟨y,hy,rfl⟩:=List.mem_map.mp hz;exact byContradiction fun q=>c ⟨true,y,hy,q⟩
 unfold fi at hi;rw[List.length_map]at hi;exact key _ _ i (List.getElem?_eq_getElem hi) (Nat.lt_succ_self _) hD
theorem eG{b:Bytes}{g:ae}(h:bT b g):b.headD 0=MARK/\3<=b.length/\numAt b 1<=96/\rowsAt b (numAt b 1) 3=some (fi g):=by
 obtain⟨lg,rfl,l96⟩:=h;obtain⟨s1,s2,s3,s4⟩:=jA g;have e:numAt (cD g) 1=(ao g).length:=by omega
 refine⟨s1,s2,by omega,?_⟩;rw[e];have hc:∀x∈ao g,∀y,(y∈x.left\/y∈x.right)->y∈ao g:=fun x hx y hy=>hy.elim (cB x hx false y) (cB x hx true y);refine p_ l96 hc ?_ (ao g) 3 (fun _ h=>h) s4 s2;intro x hx;have lx:=(aP.mp hx).least lg;have ne:∀{a b:ae},before a b->a≠b:=fun{a b}q e=>bE a (by rw[<-e]at q;exact q);cases lx with
 |mk _ _ _ _ _ _ _ sl sr=>
  constructor
  ·exact Nat.le_trans (aC (sl.imp ne) fun y hy=>hc x hx y (.inl hy)) l96
  ·exact Nat.le_trans (aC (sr.imp ne) fun y hy=>hc x hx y (.inr hy)) l96
theorem CF{b:Bytes}{rows:List (List Nat×List Nat)}(hr:rowsAt b (numAt b 1) 3=some rows)(h0:0<rows.length){t:List Nat}(ht:cJ rows t)(ha:∀i,i<rows.length->i∈t){fm:Nat->ae}(hf:qp rows t fm) {g:ae} (h:bT b g):fm 0=g:=by have e:=(eG h).2.2.2;rw[hr]at e;cases e;have u:=ht.unique hf (qi h.1) 0 (ha 0 h0);rw[u];obtain⟨t',e⟩:=k8 g;rw[e];rfl
theorem B6{rows:List (List Nat×List Nat)}{t:List Nat}(ht:cJ rows t){fm:Nat->ae}(hf:qp rows t fm){i:Nat}(hi:i∈t):bc (fm i):=by obtain⟨l,r,e,_,_⟩:=ht.opts i hi;rw[hf i hi l r e];exact cX _
end Gth
namespace L2
open PySem PySem.Spec PyProof.Rows
abbrev dU:=Sum Int Str
def oq:dU->Value->Bool
 |.inl k,v=>Value.isInt k v
 |.inr x,v=>Value.isStrOf x v
def Hg(w:World):dU->Int
 |.inl k=>hashInt k
 |.inr x=>hashStr w x
theorem cq:∀{k:dU}{v:Value},oq k v=true->(∃i t,k=Sum.inl i/\v=Value.int i t)\/(∃x t,k=Sum.inr x/\v=Value.str x t)
 |.inl i,v,h=>by obtain⟨t,e⟩:=Value.isInt_shape (k:=i) (v:=v) h;exact .inl ⟨i,t,rfl,e⟩
 |.inr x,v,h=>by obtain⟨t,e⟩:=Value.isStrOf_shape (x:=x) (v:=v) h;exact .inr ⟨x,t,rfl,e⟩
theorem A2(i:Int)(t:Tok):oq (.inl i) (.int i t)=true:=by simp[oq,Value.isInt]
theorem Bf(x:Str)(t:Tok):oq (.inr x) (.str x t)=true:=by simp[oq,Value.isStrOf]
theorem EZ(a b:Int):decide ((Sum.inl a:dU)=Sum.inl b)=(a==b):=by
 by_cases e:a=b
 ·subst e;simp
 ·have h:¬(Sum.inl a:dU)=Sum.inl b:=fun q=>e (Sum.inl.inj q);rw[decide_eq_false h];exact(beq_eq_false_iff_ne.mpr e).symm
theorem E5(a b:Str):decide ((Sum.inr a:dU)=Sum.inr b)=decide (a=b):=by
 by_cases e:a=b
 ·subst e;simp
 ·have h:¬(Sum.inr a:dU)=Sum.inr b:=fun q=>e (Sum.inr.inj q);rw[decide_eq_false h,decide_eq_false e]
theorem E1(a:Int)(b:Str):decide ((Sum.inl a:dU)=Sum.inr b)=false:=decide_eq_false (fun q=>nomatch q)
theorem FP(a:Str)(b:Int):decide ((Sum.inr a:dU)=Sum.inl b)=false:=decide_eq_false (fun q=>nomatch q)
def cb(prog:Program)(w:World):PySem.KeyKind prog w dU where
 is:=oq;hash:=Hg w
 inj:=fun v a b ha hb=>by
  rcases cq ha with⟨i,t,rfl,rfl⟩|⟨x,t,rfl,rfl⟩
  ·rcases cq hb with⟨j,u,rfl,e⟩|⟨y,u,rfl,e⟩
   ·injection e with e1 _;rw[e1]
   ·exact nomatch e
  ·rcases cq hb with⟨j,u,rfl,e⟩|⟨y,u,rfl,e⟩
   ·exact nomatch e
   ·injection e with e1 _;rw[e1]
 byValue:=fun k v h=>by rcases cq h with⟨i,t,rfl,rfl⟩|⟨x,t,rfl,rfl⟩<;>rfl
 pyHash:=fun hv h=>by
  rcases cq hv with⟨i,t,rfl,rfl⟩|⟨x,t,rfl,rfl⟩
  ·exact wpAny_pyHash_int h
  ·exact wpAny_pyHash_str h
 eqBool:=fun hu hv h=>by
  rcases cq hu with⟨i,t,rfl,rfl⟩|⟨x,t,rfl,rfl⟩
  ·rcases cq hv with⟨j,u,rfl,rfl⟩|⟨y,u,rfl,rfl⟩
   ·rw[EZ]at h;exact wpAny_eqBool_int h
   ·rw[E1]at h;exact SeqAt.EqAt.int_str i t y u _ _ _ _ h
  ·rcases cq hv with⟨j,u,rfl,rfl⟩|⟨y,u,rfl,rfl⟩
   ·rw[FP]at h;exact SeqAt.EqAt.str_int x t j u _ _ _ _ h
   ·rw[E5]at h;exact wpAny_eqBool_str h
 «strs»:=fun k x t v h=>by
  rcases cq h with⟨i,u,rfl,e⟩|⟨y,u,rfl,e⟩
  ·exact nomatch e
  ·injection e with e1 _
   subst e1;cases v<;>rfl
theorem zr(prog:Program)(w:World)(k:dU)(v:Value):(cb prog w).is k v=oq k v:=rfl
theorem ya(prog:Program)(w:World)(i:Int)(t:Tok):(cb prog w).is (.inl i) (.int i t)=true:=A2 i t
theorem wR(prog:Program)(w:World)(x:Str)(t:Tok):(cb prog w).is (.inr x) (.str x t)=true:=Bf x t
end L2
namespace L2
open PySem PySem.Spec PyProof.Rows
inductive V where
 |non|bl (b:Bool)|int (i:Int)|str (x:Str)|byt (b:Array UInt8)|flt (b:UInt64)|ref (a:Addr)|ty (n:String)
 deriving DecidableEq
def br:V->Value->Prop
 |.non,u=>u=Value.none
 |.bl b,u=>u=Value.bool b
 |.int i,u=>∃t,u=Value.int i t
 |.str x,u=>∃t,u=Value.str x t
 |.byt b,u=>∃t,u=Value.bytes b t
 |.flt b,u=>∃t,u=Value.float b t
 |.ref a,u=>u=Value.ref a
 |.ty n,u=>u=Value.type n
abbrev aQ:List V->List Value->Prop:=Paired br
theorem aQ.length{xs:List V}{us:List Value}(r:aQ xs us):xs.length=us.length:=Paired.length r
theorem aQ.get:∀{xs:List V}{us:List Value}{i:Nat}{x:V},aQ xs us->xs[i]?=some x->∃u,us[i]?=some u/\br x u
 |_,_,_,_,.nil,e=>by simp at e
 |_,_,0,_,.cons r _,e=>by simp at e;subst e;exact⟨_,rfl,r⟩
 |_,_,i+1,x,.cons _ t,e=>by obtain⟨u,h1,h2⟩:=aQ.get (i:=i) (x:=x) t (by simpa using e);exact⟨u,by simpa using h1,h2⟩
theorem aQ.set{x:V}{u:Value}(r:br x u):∀{xs:List V}{us:List Value}(i:Nat),aQ xs us->aQ (xs.set i x) (us.set i u)
 |_,_,_,.nil=>.nil
 |_,_,0,.cons _ t=>.cons r t
 |_,_,i+1,.cons q t=>.cons q (aQ.set r i t)
theorem aQ.append:∀{xs ys:List V}{us ws:List Value},aQ xs us->aQ ys ws->aQ (xs++ys) (us++ws)
 |_,_,_,_,.nil,s=>s
 |_,_,_,_,.cons r t,s=>.cons r (aQ.append t s)
theorem aQ.take:∀{xs:List V}{us:List Value}(n:Nat),aQ xs us->aQ (xs.take n) (us.take n)
 |_,_,0,_=>.nil
 |_,_,_+1,.nil=>.nil
 |_,_,n+1,.cons r t=>.cons r (aQ.take n t)
theorem aQ.drop:∀{xs:List V}{us:List Value}(n:Nat),aQ xs us->aQ (xs.drop n) (us.drop n)
 |_,_,0,r=>r
 |_,_,_+1,.nil=>.nil
 |_,_,n+1,.cons _ t=>aQ.drop n t
def mX:Option V->Option Value->Prop
 |some v,some u=>br v u
 |none,none=>True
 |_,_=>False
def KV{κ:Type}:List (κ×V)->List (κ×Value)->Prop:=Paired fun(p:κ×V)(q:κ×Value)=>p.1=q.1/\br p.2 q.2
def kV:dU->V
 |.inl i=>.int i
 |.inr x=>.str x
inductive HO where
 |lst (xs:List V)
 |tup (xs:List V)
 |dK (kvs:List (dU×V))|dT (kvs:List (List dU×V))
 |set (S:Int->Bool) (n:Nat)
 |ins (C dx:Addr) (fs:List (Str×V))
 |own (x:Addr)
 |xd (fs:List (Str×V))
 |met (f x:Addr)
 |rng (lo hi:Int)
 |frz (o:Obj) (u:HO)
 |tbl (ps:Array Value)
 |ext (φ:Heap->Prop)
abbrev Hp:=Addr->Option HO
def aI(H:Hp)(a:Addr)(o:HO):Hp:=fun b=>if b=a then some o else H b
theorem ah{H:Hp}{a:Addr}{o:HO}:aI H a o a=some o:=by unfold aI;rw[if_pos rfl]
theorem ai{H:Hp}{a b:Addr}{o:HO}(h:b≠a):aI H a o b=H b:=by unfold aI;rw[if_neg h]
theorem dq{H:Hp}{a:Addr}{o u:HO}:aI (aI H a o) a u=aI H a u:=by funext b;unfold aI;split<;>rfl
theorem cv{H:Hp}{a b:Addr}{o u:HO}(h:H a=some o)(h':H b=some u)(d:o≠u):a≠b:=by intro e;subst e;rw[h]at h';exact d (Option.some.inj h')
theorem au{H:Hp}{a b:Addr}{o:HO}(h:H a=some o)(h':H b=none):a≠b:=by intro e;subst e;rw[h]at h';cases h'
section
variable(P:Program)(w:World)
def cF(H:Hp)(h:Heap)(a:Addr):HO->Prop
 |.lst xs=>xs.length<=sizeLine/\∃(its:List Value) (n:Nat),aQ xs its/\h.get? a=some { cls:=.type "list",data:=.seq its.toArray n }
 |.tup xs=>xs.length<=sizeLine/\∃its:List Value,aQ xs its/\IsTup h a its.toArray
 |.dK kvs=>kvs.length<=sizeLine/\(a==sysModules)=false/\∃vs,KV kvs vs/\h.DictOf (cb P w) a vs
 |.dT kvs=>kvs.length<=sizeLine/\(a==sysModules)=false/\∃xs:List (List dU×Addr×Value),Paired (fun(p:List dU×V)(q:List dU×Addr×Value)=>p.1=q.1/\H q.2.1=some (.tup (p.1.map kV))/\br p.2 q.2.2) kvs xs/\∃o es ep,h.get? a=some o/\o.ExactDict/\o.data=.dict es ep/\es.toList=xs.map (entryOfKey (tupleKind (cb P w)))/\(xs.map (·.1)).Nodup
 |.set S n=>h.SetOf (intKind P w) a S n
 |.ins C dx fs=>H dx=some (.own a)/\fs.length<=1000/\dx≠a/\h.get? a=some (W.instObj C dx)/\∃mA,h.Ns1 dx mA/\(∀f,mX (fs.lookup f) (mA f))/\PySem.Within mA (fs.map (·.1))
 |.own _=>∃o,h.get? a=some o
 |.xd fs=>∃mA,h.Ns1 a mA/\∀f,mX (fs.lookup f) (mA f)
 |.rng lo hi=>∃t u v,h.get? a=some { cls:=.type "range",data:=.fields #[.int lo t,.int hi u,.int 1 v] }
 |.frz o u=>h.get? a=some o/\cF H h a u
 |.tbl ps=>h.get? a=some { cls:=.none,data:=.fields ps }
 |.met f x=>h.get? a=some (W.methodObj (.ref f) (.ref x))
 |.ext φ=>φ h/\(∃o,h.get? a=some o)/\∀h1 h2:Heap,φ h1->(∀o,h1.get? a=some o->h2.get? a=some o)->φ h2
def jb(H:Hp)(h:Heap):Prop:=∀a o,H a=some o->cF P w H h a o
end
section
variable{P:Program}{w:World}{H H':Hp}{h h':Heap}{a:Addr}{o:HO}
theorem cF.lt(x:cF P w H h a o):a<h.objs.size:=by
 cases o with
 |lst xs=>obtain⟨_,_,_,_,e⟩:=x;exact Heap.lt_size e
 |tup xs=>obtain⟨_,_,_,p⟩:=x;exact p.lt
 |dK kvs=>obtain⟨_,_,_,_,o,_,_,e,_⟩:=x;exact Heap.lt_size e
 |dT kvs=>obtain⟨_,_,_,_,o,_,_,e,_⟩:=x;exact Heap.lt_size e
 |set S n=>obtain⟨o,_,_,_,e,_⟩:=x;exact Heap.lt_size e
 |ins C dx fs=>obtain⟨_,_,_,e,_⟩:=x;exact Heap.lt_size e
 |own y=>obtain⟨_,e⟩:=x;exact Heap.lt_size e
 |xd fs=>obtain⟨_,⟨_,_,_,e,_⟩,_⟩:=x;exact Heap.lt_size e
 |rng lo hi=>obtain⟨_,_,_,e⟩:=x;exact Heap.lt_size e
 |frz ob u=>obtain⟨e,_⟩:=x;exact Heap.lt_size e
 |tbl ps=>exact Heap.lt_size (show h.get? a=some _ from x)
 |met f y=>exact Heap.lt_size (show h.get? a=some _ from x)
 |ext φ=>obtain⟨_,⟨_,e⟩,_⟩:=x;exact Heap.lt_size e
theorem Paired.mapP{α β:Type}{F G:α->β->Prop}:∀{l₁:List α}{l₂:List β},Paired F l₁ l₂->(∀a b,F a b->G a b)->Paired G l₁ l₂
 |_,_,.nil,_=>.nil
 |_,_,.cons r t,f=>.cons (f _ _ r) (Paired.mapP t f)
theorem cF.stay(x:cF P w H h a o)(k:∀b u,(b=a\/H b=some (.own a))->h.get? b=some u->h'.get? b=some u) (ho:∀b,H b=some (.own a)->H' b=some (.own a)) (ht:∀b xs,H b=some (.tup xs)->H' b=some (.tup xs)):cF P w H' h' a o:=by
 induction o with
 |lst xs=>obtain⟨z,its,n,r,e⟩:=x;exact⟨z,its,n,r,k _ _ (.inl rfl) e⟩
 |tup xs=>obtain⟨z,its,r,ob,e,c⟩:=x;exact⟨z,its,r,ob,k _ _ (.inl rfl) e,c⟩
 |dK kvs=>obtain⟨z,y,vs,r,ob,es,ep,e,c⟩:=x;exact⟨z,y,vs,r,ob,es,ep,k _ _ (.inl rfl) e,c⟩
 |dT kvs=>obtain⟨z,y,xs,r,ob,es,ep,e,c⟩:=x;exact⟨z,y,xs,Paired.mapP r fun p q z=>⟨z.1,ht _ _ z.2.1,z.2.2⟩,ob,es,ep,k _ _ (.inl rfl) e,c⟩
 |set S n=>obtain⟨ob,es,ep,t,e,c⟩:=x;exact⟨ob,es,ep,t,k _ _ (.inl rfl) e,c⟩
 |ins C dx fs=>obtain⟨d,z,ne,e,mA,⟨od,es,ep,e2,c⟩,r⟩:=x;exact⟨ho _ d,z,ne,k _ _ (.inl rfl) e,mA,⟨od,es,ep,k _ _ (.inr d) e2,c⟩,r⟩
 |own y=>obtain⟨ob,e⟩:=x;exact⟨ob,k _ _ (.inl rfl) e⟩
 |xd fs=>obtain⟨mA,⟨od,es,ep,e,c⟩,r⟩:=x;exact⟨mA,⟨od,es,ep,k _ _ (.inl rfl) e,c⟩,r⟩
 |rng lo hi=>obtain⟨t,u,v,e⟩:=x;exact⟨t,u,v,k _ _ (.inl rfl) e⟩
 |frz ob u ih=>obtain⟨e,q⟩:=x;exact⟨k _ _ (.inl rfl) e,ih q⟩
 |tbl ps=>have e:h.get? a=some { cls:=.none,data:=.fields ps }:=x;show h'.get? a=some { cls:=.none,data:=.fields ps };exact k a _ (.inl rfl) e
 |met f y=>have e:h.get? a=some (W.methodObj (.ref f) (.ref y)):=x;show h'.get? a=some (W.methodObj (.ref f) (.ref y));exact k a _ (.inl rfl) e
 |ext φ=>obtain⟨p,⟨o,e⟩,st⟩:=x;exact⟨st _ _ p fun o q=>k _ _ (.inl rfl) q,⟨o,k _ _ (.inl rfl) e⟩,st⟩
theorem jb.lt(x:jb P w H h)(e:H a=some o):a<h.objs.size:=(x a o e).lt
theorem jb.fresh(x:jb P w H h)(e:h.objs.size<=a):H a=none:=by
 cases q:H a with
 |none=>rfl
 |some u=>exact absurd (Nat.lt_of_lt_of_le (x.lt q) e) (Nat.lt_irrefl _)
theorem jb.kept(x:jb P w H h)(k:∀b u,h.get? b=some u->h'.get? b=some u):jb P w H h':=fun a o e=>(x a o e).stay (fun b u _ q=>k b u q) (fun _ q=>q) fun _ _ q=>q
theorem jb.laid(x:jb P w H h)(k:∀b u,h.get? b=some u->h'.get? b=some u)(hp:h.objs.size<=a)(new:cF P w (aI H a o) h' a o):jb P w (aI H a o) h':=fun b u e=>by
 have hn:=x.fresh hp;by_cases hb:b=a
 ·subst hb;rw[ah]at e;cases e;exact new
 ·rw[ai hb]at e;exact(x b u e).stay (fun c v _ q=>k c v q) (fun c q=>by rw[ai (au q hn)];exact q) fun c xs q=>by rw[ai (au q hn)];exact q
end
def Rd(H:Hp)(a:Addr)(u:HO):Prop:=H a=some u\/∃o,H a=some (.frz o u)
theorem Rd.ok{P:Program}{w:World}{H:Hp}{h:Heap}{a:Addr}{u:HO}(r:Rd H a u)(x:jb P w H h):cF P w H h a u:=by
 rcases r with r|⟨o,r⟩
 ·exact x a u r
 ·obtain⟨_,q⟩:=x a _ r;exact q
def EN:Option HO->Prop
 |some (.lst _)=>True
 |some (.dK _)=>True
 |some (.dT _)=>True
 |some (.set _ _)=>True
 |some (.ins _ _ _)=>True
 |some (.ext _)=>True
 |_=>False
section
variable{P:Program}{w:World}{H:Hp}{h h':Heap}{x e:Addr}{o':HO}
theorem jb.write(ok:jb P w H h)(mu:EN (H x))(he:e=x\/H e=some (.own x))(k:∀b u,b≠e->h.get? b=some u->h'.get? b=some u)(heo:∃u,h'.get? e=some u) (new:cF P w (aI H x o') h' x o'):jb P w (aI H x o') h':=fun b u q=>by
 have nown:∀c y,H c=some (.own y)->c≠x:=fun c y r z=>by subst z;rw[r]at mu;exact mu
 have ntup:∀c xs,H c=some (.tup xs)->c≠x:=fun c xs r z=>by subst z;rw[r]at mu;exact mu
 by_cases hb:b=x
 ·subst hb;rw[ah]at q;cases q;exact new
 ·rw[ai hb]at q;by_cases hbe:b=e
  ·have q':H b=some (.own x):=by
    rcases he with z|z
    ·exact absurd (hbe.trans z) hb
    ·rw[hbe];exact z
   rw[q]at q';cases q';obtain⟨v,hv⟩:=heo;exact⟨v,by rw[hbe];exact hv⟩
  ·refine(ok b u q).stay (fun c v hc r=>k c v ?_ r) (fun c r=>by rw[ai (nown c b r)];exact r) fun c xs r=>by rw[ai (ntup c xs r)];exact r
   rcases hc with rfl|hc
   ·exact hbe
   ·rintro rfl;rcases he with z|z
    ·exact nown c b hc z
    ·rw[hc]at z;cases z;exact hb rfl
end
structure Un(fs ex:List Addr)(H H':Hp)(h h':Heap):Prop where
 keep:∀b o,h.get? b=some o->H b=none->b∉fs->b∉ex->h'.get? b=some o
 slot:∀b o,h.get? b=some o->H b=none->b∈fs->b∉ex->∃sl,h'.get? b=some { o with slots:=sl }
 free:∀b o,h.get? b=some o->H b=none->b∉ex->H' b=none
 there:∀b o,h.get? b=some o->b∉ex->∃o',h'.get? b=some o'
 tups:∀b xs,H b=some (.tup xs)->H' b=some (.tup xs)
 frzs:∀b o u,H b=some (.frz o u)->H' b=some (.frz o u)
 tbls:∀b ps,H b=some (.tbl ps)->∃more,H' b=some (.tbl (ps++more))
section
variable{fs fs' ex ex':List Addr}{H H1 H2:Hp}{h h1 h2 h':Heap}{a x e:Addr}{o:HO}
theorem Un.any(u:Un fs ex H H1 h h1){b:Addr}{ob:Obj}(q:h.get? b=some ob)(n:H b=none)(hx:b∉ex):∃sl,h1.get? b=some { ob with slots:=sl }:=by
 by_cases hb:b∈fs
 ·exact u.slot b ob q n hb hx
 ·exact⟨ob.slots,u.keep b ob q n hb hx⟩
theorem Un.trans(a:Un fs ex H H1 h h1)(b:Un fs ex H1 H2 h1 h2):Un fs ex H H2 h h2 where
 keep:=fun c ob q n hc hx=>b.keep c ob (a.keep c ob q n hc hx) (a.free c ob q n hx) hc hx;slot:=fun c ob q n hc hx=>by obtain⟨sl,e1⟩:=a.slot c ob q n hc hx;obtain⟨sl',e2⟩:=b.slot c _ e1 (a.free c ob q n hx) hc hx;exact⟨sl',e2⟩
 free:=fun c ob q n hx=>by obtain⟨o',e1⟩:=a.there c ob q hx;exact b.free c o' e1 (a.free c ob q n hx) hx
 there:=fun c ob q hx=>by obtain⟨o',e1⟩:=a.there c ob q hx;exact b.there c o' e1 hx
 tups:=fun c xs q=>b.tups c xs (a.tups c xs q);frzs:=fun c ob xs q=>b.frzs c ob xs (a.frzs c ob xs q);tbls:=fun c ps q=>by obtain⟨m1,e1⟩:=a.tbls c ps q;obtain⟨m2,e2⟩:=b.tbls c _ e1;exact⟨m1++m2,by rw[e2,Array.append_assoc]⟩
theorem Un.kept(k:∀b u,h.get? b=some u->h'.get? b=some u):Un fs ex H H h h':=⟨fun b ob q _ _ _=>k b ob q,fun b ob q _ _ _=>⟨ob.slots,k b ob q⟩,fun _ _ _ n _=>n,fun b ob q _=>⟨ob,k b ob q⟩,fun _ _ q=>q,fun _ _ _ q=>q,fun _ ps q=>⟨#[],by rw[q];simp⟩⟩
theorem Un.refl:Un fs ex H H h h:=Un.kept fun _ _ q=>q
theorem Un.laid(k:∀b u,h.get? b=some u->h'.get? b=some u)(hp:h.objs.size<=a)(hn:H a=none):Un fs ex H (aI H a o) h h' where
 keep:=fun b u q _ _ _=>k b u q;slot:=fun b u q _ _ _=>⟨u.slots,k b u q⟩
 free:=fun b u q n _=>by rw[ai (Nat.ne_of_lt (Nat.lt_of_lt_of_le (Heap.lt_size q) hp))];exact n
 there:=fun b u q _=>⟨u,k b u q⟩
 tups:=fun b xs q=>by rw[ai (au q hn)];exact q
 frzs:=fun b u xs q=>by rw[ai (au q hn)];exact q
 tbls:=fun b ps q=>⟨#[],by rw[ai (au q hn),q];simp⟩
theorem Un.write(mu:EN (H x))(he:e=x\/H e=some (.own x))(k:∀b u,b≠e->h.get? b=some u->h'.get? b=some u)(heo:∃u,h'.get? e=some u):Un fs ex H (aI H x o) h h':=by
 have hx:∀b,H b=none->b≠x:=fun b n z=>by subst z;rw[n]at mu;exact mu
 have hb:∀b,H b=none->b≠e:=fun b n z=>by
  subst z;rcases he with r|r
  ·exact hx b n r
  ·rw[n]at r;cases r
 have hm:∀b u,H b=some u->¬EN (some u)->b≠x:=fun b u q nm z=>by subst z;rw[q]at mu;exact nm mu
 refine⟨fun b u q n _ _=>k b u (hb b n) q,fun b u q n _ _=>⟨u.slots,k b u (hb b n) q⟩,fun b u q n _=>by rw[ai (hx b n)];exact n,fun b u q _=>?_,fun b xs q=>by rw[ai (hm b _ q fun z=>z)];exact q,fun b u xs q=>by rw[ai (hm b _ q fun z=>z)];exact q,fun b ps q=>⟨#[],by rw[ai (hm b _ q fun z=>z),q];simp⟩⟩;by_cases hbe:b=e
 ·subst hbe;exact heo
 ·exact⟨u,k b u hbe q⟩
theorem Un.mono(u:Un fs ex H H1 h h1)(hs:∀b∈fs,b∈fs')(hx:∀b∈ex,b∈ex'):Un fs' ex' H H1 h h1:=⟨fun b ob q n hb he=>u.keep b ob q n (fun z=>hb (hs b z)) fun z=>he (hx b z),fun _ _ q n _ he=>u.any q n fun z=>he (hx _ z),fun b ob q n he=>u.free b ob q n fun z=>he (hx b z),fun b ob q he=>u.there b ob q fun z=>he (hx b z),u.tups,u.frzs,u.tbls⟩
end
def G4(h:Heap)(H:Hp):List Addr:=(List.range h.objs.size).filter fun a=>(H a).isSome
def u_(h:Heap)(H:Hp):Heap:=W.hideAll h (G4 h H)
theorem AW(h:Heap)(H:Hp):(u_ h H).objs.size=h.objs.size:=W.hideAll_size _ _
theorem BQ{h:Heap}{H:Hp}{b:Addr}{o:Obj}(e:h.get? b=some o)(n:H b=none):(u_ h H).get? b=some o:=W.hideAll_get _ e fun hm=>by have q:(H b).isSome=true:=(List.mem_filter.mp hm).2;rw[n]at q;simp at q
theorem Et{h:Heap}{H:Hp}{b:Addr}{o:Obj}(e:(u_ h H).get? b=some o):h.get? b=some o/\H b=none:=by
 have e':h.get? b=some o:=W.of_hideAll (G4 h H) e;refine⟨e',?_⟩;cases q:H b with
 |none=>rfl
 |some x=>have hm:b∈G4 h H:=List.mem_filter.mpr ⟨List.mem_range.mpr (Heap.lt_size e'),by simp[q]⟩;have z:(u_ h H).get? b=none:=W.hideAll_none (G4 h H) hm;rw[z]at e;cases e
end L2
namespace L2
open PySem PySem.Spec PyProof.Rows
structure Mod(K:W.Frag)(mg:Str->Option Value)(base:Heap):Prop where
 kin:K.In base
 glob:base.Ns mainGlobals mg
 blt:∃mb,base.Ns builtinsNs mb/\∀x:Str,x≠"__name__"->mb x=bootBuiltins x
 nolimit:base.NoLimit
structure Cx where
 prog:Program
 w:World
 K:W.Frag
 mg:Str->Option Value
 base:Heap
 A:Around
 N:List Str
 s_0:Shared
 H_0:Hp
 env:Env
 outer:List Env
 stack:List Env
 ex:List Addr
 fn:Str->Bool
 calm:Bool
 pn:List (Addr×Obj)
 xe:Value->Shared->Prop
def gW(l:List Env):List Addr:=l.filterMap (·.frame)
abbrev Cx.fs(X:Cx):List Addr:=gW X.outer
def F7(sc:Scope)(x:Str):Prop:=sc.names.lookup x=some .local\/sc.names.lookup x=some .cell\/sc.names.lookup x=some .free
def Ed(sc:Scope)(x:Str):Prop:=sc.names.lookup x=some .local\/sc.names.lookup x=some .cell
def G5(env:Env)(h:Heap)(m:Str->Option Value)(x:Str)(u:Value):Prop:=(env.kindOf x=some .local/\m x=some u)\/((env.kindOf x=some .cell\/env.kindOf x=some .free)/\∃c,env.cells.lookup x=some c/\h.IsCell c (some u))
structure Cx.Ok(X:Cx):Prop where
 mod:Mod X.K X.mg X.base
 kind:X.env.scope.kind=.function
 glob:X.env.globals=mainGlobals
 blt:X.env.builtins=builtinsNs
 above:X.s_0.heap.objs.size<=X.env.locals
 inj:∀x y c,X.env.cells.lookup x=some c->X.env.cells.lookup y=some c->x=y
 has:∀x,(X.env.kindOf x=some .cell\/X.env.kindOf x=some .free)->∃c,X.env.cells.lookup x=some c
 cab:∀x c,X.fn x=true->X.env.cells.lookup x=some c->X.s_0.heap.objs.size<=c
 hd:X.calm=true->X.A.handled=none
 frames:X.A.frames=some X.stack
 stk:X.stack=X.outer\/(X.stack=X.env::X.outer/\X.env.frame=some X.env.locals)
 exf:∀b∈X.ex,b≠X.env.locals/\∀x c,X.env.cells.lookup x=some c->c≠b
 bs:∀b o,X.base.get? b=some o->X.s_0.heap.get? b=some o/\X.H_0 b=none
 bsz:X.base.objs.size<=X.s_0.heap.objs.size
 noex:∀b o,X.base.get? b=some o->b∉X.ex
 exfs:∀b∈X.ex,b∉X.fs
 funs:X.s_0.heap.FunFrames X.base X.outer
 frf:∀b∈X.fs,X.H_0 b=none
structure aH(X:Cx)(pins:List (Addr×Obj))(σ:List (Option V))(H:Hp)(s:Shared):Prop where
 ok:X.Ok
 os:s.os=X.s_0.os
 bare:AllBare s.gens
 base:Un X.fs X.ex X.H_0 H X.s_0.heap s.heap
 loc:∃m,s.heap.Ns X.env.locals m/\∀(i:Nat)(x:Str)(v:V),X.N[i]?=some x->σ[i]?=some (some v)->F7 X.env.scope x->∃u,br v u/\G5 X.env s.heap m x u
 cell:∀x c,X.env.cells.lookup x=some c->∃v,s.heap.IsCell c v
 free:H X.env.locals=none
 freeC:∀x c,X.env.cells.lookup x=some c->H c=none
 pin:∀p∈X.pn++pins,s.heap.get? p.1=some p.2/\H p.1=none/\p.1≠X.env.locals/\p.1∉X.fs/\∀v,p.2.data≠.cell v
 hok:jb X.prog X.w H s.heap
 len:σ.length=X.N.length
section
variable{X:Cx}{pins:List (Addr×Obj)}{σ:List (Option V)}{H H':Hp}{s:Shared}{h':Heap}
theorem Cx.Ok.nofr(ok:X.Ok){b:Addr}{o:Obj}(e:X.base.get? b=some o):b∉X.fs:=fun hb=>by have:=(ok.funs.mem hb).1;rw[e]at this;cases this
theorem aH.bs(I:aH X pins σ H s):∀b o,X.base.get? b=some o->s.heap.get? b=some o/\H b=none:=fun b o e=>⟨I.base.keep b o (I.ok.bs b o e).1 (I.ok.bs b o e).2 (I.ok.nofr e) (I.ok.noex b o e),I.base.free b o (I.ok.bs b o e).1 (I.ok.bs b o e).2 (I.ok.noex b o e)⟩
theorem aH.bk(I:aH X pins σ H s):∀b o,X.base.get? b=some o->s.heap.get? b=some o:=fun b o e=>(I.bs b o e).1
theorem aH.mod(I:aH X pins σ H s):Mod X.K X.mg X.base:=I.ok.mod
theorem aH.kIn(I:aH X pins σ H s):X.K.In s.heap:=I.ok.mod.kin.keeps I.bk
theorem aH.lt(I:aH X pins σ H s):X.env.locals<s.heap.objs.size:=let⟨_,hn,_⟩:=I.loc;hn.lt
theorem aH.sz(I:aH X pins σ H s):X.s_0.heap.objs.size<=s.heap.objs.size:=Nat.le_trans I.ok.above (Nat.le_of_lt I.lt)
theorem aH.nofs(I:aH X pins σ H s){a:Addr}(h:s.heap.objs.size<=a):a∉X.fs:=fun hb=>by obtain⟨_,o,ho,_⟩:=I.ok.funs.mem hb;exact absurd (Nat.lt_of_lt_of_le (Heap.lt_size ho) (Nat.le_trans I.sz h)) (Nat.lt_irrefl _)
theorem aH.cne(I:aH X pins σ H s):∀x c,X.env.cells.lookup x=some c->c≠X.env.locals:=fun x c e z=>by obtain⟨v,o,ho,hd⟩:=I.cell x c e;obtain⟨m,⟨o',es,ep,ho',hd',_⟩,_⟩:=I.loc;rw[z,ho']at ho;cases ho;rw[hd']at hd;cases hd
theorem aH.funs(I:aH X pins σ H s):s.heap.FunFrames X.base X.outer:=by
 have all:∀(l:List Env),(∀b∈gW l,b∈X.fs)->X.s_0.heap.FunFrames X.base l->s.heap.FunFrames X.base l:=by
  intro l;induction l with
  |nil=>intro _ _;trivial
  |cons env r ih=>intro hs hl;obtain⟨hk,⟨L,o,hf,hn,ho,hd⟩,hr⟩:=hl;have hL:L∈X.fs:=hs L (by unfold gW;rw[List.filterMap_cons,hf];exact List.mem_cons_self);obtain⟨sl,e⟩:=I.base.slot L o ho (I.ok.frf L hL) hL fun z=>I.ok.exfs L z hL;exact⟨hk,⟨L,_,hf,hn,e,hd⟩,ih (fun b hb=>hs b (by unfold gW;rw[List.filterMap_cons,hf];exact List.mem_cons_of_mem _ hb)) hr⟩
 exact all X.outer (fun _ hb=>hb) I.ok.funs
theorem aH.stack(I:aH X pins σ H s):s.heap.FunFrames X.base X.stack:=by
 rcases I.ok.stk with e|⟨e,hf⟩
 ·rw[e];exact I.funs
 ·rw[e];obtain⟨m,hn,_⟩:=I.loc;refine .cons (by rw[I.ok.kind];decide) hf hn ?_ I.funs;exact Heap.get?_none_of_le (Nat.le_trans I.ok.bsz I.ok.above)
theorem aH.stkSub(I:aH X pins σ H s):∀b∈gW X.stack,b∈X.env.locals::X.fs:=fun b hb=>by
 rcases I.ok.stk with e|⟨e,hf⟩
 ·rw[e]at hb;exact List.mem_cons_of_mem _ hb
 ·rw[e]at hb;unfold gW at hb;rw[List.filterMap_cons,hf]at hb;exact hb
theorem aH.stkFree(I:aH X pins σ H s):∀b∈gW X.stack,H b=none:=fun b hb=>by
 rcases List.mem_cons.mp (I.stkSub b hb)with e|hb
 ·rw[e];exact I.free
 ·obtain⟨_,o,ho,_⟩:=I.ok.funs.mem hb;exact I.base.free b o ho (I.ok.frf b hb) fun z=>I.ok.exfs b z hb
theorem aH.step{g':Array GenState}{t':Nat}{d':Drawn}{ch:List Addr}(I:aH X pins σ H s) (hch:∀b∈ch,(b∈X.ex\/X.s_0.heap.objs.size<=b)/\b≠X.env.locals/\(∀x c,X.env.cells.lookup x=some c->c≠b)/\∀p∈X.pn++pins,p.1≠b) (keep:∀b o,b≠X.env.locals->b∉X.fs->b∉ch->s.heap.get? b=some o->H b=none->h'.get? b=some o) (slot:∀b o,b≠X.env.locals->b∈X.fs->b∉ch->s.heap.get? b=some o->H b=none->∃sl,h'.get? b=some { o with slots:=sl }) (free:∀b o,b∉ch->s.heap.get? b=some o->H b=none->H' b=none) (there:∀b o,b∉ch->s.heap.get? b=some o->∃o',h'.get? b=some o') (tups:∀b xs,H b=some (.tup xs)->H' b=some (.tup xs)) (frzs:∀b o u,H b=some (.frz o u)->H' b=some (.frz o u)) (tbls:∀b ps,H b=some (.tbl ps)->∃more,H' b=some (.tbl (ps++more))) (ns:∀m,s.heap.Ns X.env.locals m->h'.Ns X.env.locals m) (hok:jb X.prog X.w H' h') (hg:AllBare g') :aH X pins σ H' { s with heap:=h',gens:=g',drawn:=d',toks:=t' }:=by
 have neL:∀b o,X.s_0.heap.get? b=some o->b≠X.env.locals:=fun b o e=>Nat.ne_of_lt (Nat.lt_of_lt_of_le (Heap.lt_size e) I.ok.above)
 have neC:∀b o,X.s_0.heap.get? b=some o->b∉X.ex->b∉ch:=fun b o e hx hb=>by
  rcases(hch b hb).1 with z|z
  ·exact hx z
  ·exact absurd (Nat.lt_of_lt_of_le (Heap.lt_size e) z) (Nat.lt_irrefl _)
 have cellK:∀x c,X.env.cells.lookup x=some c->∀v,s.heap.IsCell c v->h'.IsCell c v:=fun x c e v⟨o,ho,hd⟩=>by
  have nch:c∉ch:=fun z=>(hch c z).2.2.1 x c e rfl;by_cases hc:c∈X.fs
  ·obtain⟨sl,q⟩:=slot c o (I.cne x c e) hc nch ho (I.freeC x c e);exact⟨_,q,hd⟩
  ·exact⟨o,keep c o (I.cne x c e) hc nch ho (I.freeC x c e),hd⟩
 refine⟨I.ok,I.os,hg,⟨fun b o e n hb hx=>?_,fun b o e n hb hx=>?_,fun b o e n hx=>?_,fun b o e hx=>?_,fun b xs e=>tups b xs (I.base.tups b xs e),fun b o xs e=>frzs b o xs (I.base.frzs b o xs e),fun b ps e=>?_⟩,?_,fun x c e=>?_,?_,fun x c e=>?_,fun p hp=>?_,hok,I.len⟩
 ·exact keep b o (neL b o e) hb (neC b o e hx) (I.base.keep b o e n hb hx) (I.base.free b o e n hx)
 ·obtain⟨sl,e1⟩:=I.base.slot b o e n hb hx;obtain⟨sl',e2⟩:=slot b _ (neL b o e) hb (neC b o e hx) e1 (I.base.free b o e n hx);exact⟨sl',e2⟩
 ·obtain⟨o',e1⟩:=I.base.there b o e hx;exact free b o' (neC b o e hx) e1 (I.base.free b o e n hx)
 ·obtain⟨o',e1⟩:=I.base.there b o e hx;exact there b o' (neC b o e hx) e1
 ·obtain⟨m1,e1⟩:=I.base.tbls b ps e;obtain⟨m2,e2⟩:=tbls b _ e1;exact⟨m1++m2,by rw[e2,Array.append_assoc]⟩
 ·obtain⟨m,hn,hl⟩:=I.loc;refine⟨m,ns m hn,fun i x v e1 e2 e3=>?_⟩;obtain⟨u,r,l⟩:=hl i x v e1 e2 e3;refine⟨u,r,?_⟩;rcases l with l|⟨k,c,e,z⟩
  ·exact .inl l
  ·exact .inr ⟨k,c,e,cellK x c e _ z⟩
 ·obtain⟨v,z⟩:=I.cell x c e;exact⟨v,cellK x c e v z⟩
 ·obtain⟨m,⟨o,_,_,ho,_⟩,_⟩:=I.loc;exact free _ o (fun z=>(hch _ z).2.1 rfl) ho I.free
 ·obtain⟨v,o,ho,hd⟩:=I.cell x c e;exact free c o (fun z=>(hch c z).2.2.1 x c e rfl) ho (I.freeC x c e)
 ·obtain⟨e,n,ne,nf,d⟩:=I.pin p hp;have nch:p.1∉ch:=fun z=>(hch p.1 z).2.2.2 p hp rfl;exact⟨keep p.1 p.2 ne nf nch e n,free p.1 p.2 nch e n,ne,nf,d⟩
theorem aH.un{t':Nat}(I:aH X pins σ H s)(u:Un X.fs [] H H' s.heap h')(hok:jb X.prog X.w H' h'):aH X pins σ H' { s with heap:=h',toks:=t' }:=by obtain⟨m,⟨o,es,ep,ho,r⟩,_⟩:=id I.loc;obtain⟨sl,hL⟩:=u.any ho I.free (by simp);exact I.step (g':=s.gens) (d':=s.drawn) (ch:=[]) (fun _ z=>nomatch z) (fun b o _ hb _ e n=>u.keep b o e n hb (by simp)) (fun b o _ hb _ e n=>u.slot b o e n hb (by simp)) (fun b o _ e n=>u.free b o e n (by simp)) (fun b o _ e=>u.there b o e (by simp)) u.tups u.frzs u.tbls (fun m' hm=>by obtain⟨o',es',ep',ho',r'⟩:=hm;rw[ho]at ho';cases ho';exact⟨_,es',ep',hL,r'⟩) hok I.bare
theorem aH.call{g':Array GenState}{t':Nat}{d':Drawn}{ch:List Addr}(I:aH X pins σ H s)(u:Un (gW X.stack) ch H H' s.heap h')(hok:jb X.prog X.w H' h')(hg:AllBare g') (hch:∀b∈ch,(b∈X.ex\/X.s_0.heap.objs.size<=b)/\b≠X.env.locals/\(∀x c,X.env.cells.lookup x=some c->c≠b)/\∀p∈X.pn++pins,p.1≠b) :aH X pins σ H' { s with heap:=h',gens:=g',drawn:=d',toks:=t' }:=by obtain⟨m,⟨o,es,ep,ho,r⟩,_⟩:=id I.loc;obtain⟨sl,hL⟩:=u.any ho I.free fun z=>(hch _ z).2.1 rfl;exact I.step (ch:=ch) hch (fun b o hL hb hc e n=>u.keep b o e n (fun z=>(List.mem_cons.mp (I.stkSub b z)).elim hL hb) hc) (fun b o _ _ hc e n=>u.any e n hc) (fun b o hc e n=>u.free b o e n hc) (fun b o hc e=>u.there b o e hc) u.tups u.frzs u.tbls (fun m' hm=>by obtain⟨o',es',ep',ho',r'⟩:=hm;rw[ho]at ho';cases ho';exact⟨_,es',ep',hL,r'⟩) hok hg
theorem aH.turned{t':Nat}{it:Addr}(I:aH X pins σ H s)(k:∀b o,b≠it->s.heap.get? b=some o->h'.get? b=some o)(hn:H it=none)(hL:it≠X.env.locals) (h1:it∈X.ex\/X.s_0.heap.objs.size<=it) (h2:∀x c,X.env.cells.lookup x=some c->c≠it) (h3:∀p∈X.pn++pins,p.1≠it):aH X pins σ H { s with heap:=h',toks:=t' }:=by
 have nit:∀b u,H b=some u->b≠it:=fun b u e z=>by rw[z,hn]at e;cases e
 refine I.step (g':=s.gens) (d':=s.drawn) (ch:=[it]) (fun b hb=>?_) (fun b o _ _ hc e _=>k b o (fun z=>hc (by simp[z])) e) (fun b o _ _ hc e _=>⟨o.slots,k b o (fun z=>hc (by simp[z])) e⟩) (fun _ _ _ _ n=>n) (fun b o hc e=>⟨o,k b o (fun z=>hc (by simp[z])) e⟩) (fun _ _ e=>e) (fun _ _ _ e=>e) (fun b ps e=>⟨#[],by rw[e];simp⟩) (fun m hm=>?_) (fun b u e=>?_) I.bare
 ·have e:b=it:=by simpa using hb
  subst e;exact⟨h1,hL,h2,h3⟩
 ·obtain⟨o,es,ep,ho,r⟩:=hm;exact⟨o,es,ep,k _ o (Ne.symm hL) ho,r⟩
 ·refine(I.hok b u e).stay (fun c v hc q=>k c v ?_ q) (fun _ q=>q) fun _ _ q=>q;rcases hc with z|z
  ·rw[z];exact nit b u e
  ·exact nit c _ z
theorem aH.tok(I:aH X pins σ H s)(t:Nat):aH X pins σ H { s with toks:=t }:=I.un (h':=s.heap) (t':=t) Un.refl I.hok
theorem aH.kept{t':Nat}(I:aH X pins σ H s)(k:∀b u,s.heap.get? b=some u->h'.get? b=some u):aH X pins σ H { s with heap:=h',toks:=t' }:=I.un (Un.kept k) (I.hok.kept k)
theorem aH.laid{a:Addr}{o:HO}{t':Nat}(I:aH X pins σ H s)(k:∀b u,s.heap.get? b=some u->h'.get? b=some u)(hp:s.heap.objs.size<=a)(new:cF X.prog X.w (aI H a o) h' a o):aH X pins σ (aI H a o) { s with heap:=h',toks:=t' }:=I.un (Un.laid k hp (I.hok.fresh hp)) (I.hok.laid k hp new)
theorem aH.write{x e:Addr}{o:HO}{t':Nat}(I:aH X pins σ H s)(mu:EN (H x))(he:e=x\/H e=some (.own x))(k:∀b u,b≠e->s.heap.get? b=some u->h'.get? b=some u)(heo:∃u,h'.get? e=some u) (new:cF X.prog X.w (aI H x o) h' x o):aH X pins σ (aI H x o) { s with heap:=h',toks:=t' }:=I.un (Un.write mu he k heo) (I.hok.write mu he k heo new)
theorem aH.weak{σ':List (Option V)}(I:aH X pins σ H s)(hl:σ'.length=σ.length)(w:∀(i:Nat) v,σ'[i]?=some (some v)->σ[i]?=some (some v)):aH X pins σ' H s:=⟨I.ok,I.os,I.bare,I.base,let⟨m,hn,hl'⟩:=I.loc;⟨m,hn,fun i x v e1 e2 e3=>hl' i x v e1 (w i v e2) e3⟩,I.cell,I.free,I.freeC,I.pin,I.hok,hl.trans I.len⟩
theorem aH.pins_of{pins':List (Addr×Obj)}(I:aH X pins σ H s)(h:∀p∈pins',s.heap.get? p.1=some p.2/\H p.1=none/\p.1≠X.env.locals/\p.1∉X.fs/\∀v,p.2.data≠.cell v):aH X pins' σ H s:=⟨I.ok,I.os,I.bare,I.base,I.loc,I.cell,I.free,I.freeC,fun p hp=>(List.mem_append.mp hp).elim (fun z=>I.pin p (List.mem_append_left _ z)) (h p),I.hok,I.len⟩
theorem r6{N:List Str}(hN:N.Nodup){i j:Nat}{x:Str}(a:N[i]?=some x)(b:N[j]?=some x):i=j:=by obtain⟨h1,e1⟩:=List.getElem?_eq_some_iff.mp a;obtain⟨h2,e2⟩:=List.getElem?_eq_some_iff.mp b;exact(List.getElem_inj hN).mp (e1.trans e2.symm)
theorem uD{M:Model}{A:Around}{E:Value->Shared->Prop}{i:Nat}{x:Str}{v:V}{u:Value}{Q:Unit->Shared->Prop}(I:aH X pins σ H s)(hN:X.N.Nodup)(hi:X.N[i]?=some x)(hx:Ed X.env.scope x)(r:br v u) (h:∀s',aH X pins (σ.set i (some v)) H s'->(∃a,Heap.SameBut a s.heap s'.heap/\(a=X.env.locals\/X.env.cells.lookup x=some a))->Q () s') (hf:X.fn x=true\/X.env.scope.names.lookup x=some .local:=by first|exact .inl rfl|exact .inr rfl|assumption):wpAny M A (storeName X.env x u) Q E s:=by
 obtain⟨m,hn,hl⟩:=id I.loc;have hcls:(X.env.scope.kind==.class||(X.env.scope.kind==.module&&X.env.locals !=X.env.globals))=false:=by rw[I.ok.kind];rfl
 have hiσ:i<σ.length:=by rw[I.len];exact(List.getElem?_eq_some_iff.mp hi).1
 have cne:=I.cne
 have tracked:∀{a:Addr}{h':Heap},(∃o,s.heap.get? a=some o/\H a=none)->Heap.SameBut a s.heap h'->jb X.prog X.w H h':=fun{a h'}ha hs b ob e=>by
  obtain⟨_,_,hfree⟩:=ha;refine(I.hok b ob e).stay (fun c w' hc q=>(hs.2 c ?_).trans q) (fun _ q=>q) fun _ _ q=>q;rintro rfl;rcases hc with rfl|hc
  ·rw[hfree]at e;cases e
  ·rw[hfree]at hc;cases hc
 rcases hx with hk|hk
 ·refine wpAny_storeName_local hk hn (fun h' hn' hs=>?_) hcls;obtain⟨oL,_,_,hoL,_⟩:=id hn;refine h _ ⟨I.ok,I.os,I.bare,⟨fun b o e n hb hx=>?_,fun b o e n hb hx=>?_,I.base.free,fun b o e hx=>?_,I.base.tups,I.base.frzs,I.base.tbls⟩,⟨_,hn',fun j y v' e1 e2 e3=>?_⟩,fun y c e=>?_,I.free,I.freeC,fun p hp=>?_,tracked ⟨oL,hoL,I.free⟩ hs,by simpa using I.len⟩ ⟨_,hs,.inl rfl⟩
  ·exact(hs.2 b (Nat.ne_of_lt (Nat.lt_of_lt_of_le (Heap.lt_size e) I.ok.above))).trans (I.base.keep b o e n hb hx)
  ·obtain⟨sl,e1⟩:=I.base.slot b o e n hb hx;exact⟨sl,(hs.2 b (Nat.ne_of_lt (Nat.lt_of_lt_of_le (Heap.lt_size e) I.ok.above))).trans e1⟩
  ·obtain⟨o',e1⟩:=I.base.there b o e hx;exact⟨o',(hs.2 b (Nat.ne_of_lt (Nat.lt_of_lt_of_le (Heap.lt_size e) I.ok.above))).trans e1⟩
  ·by_cases hj:j=i
   ·subst hj;rw[hi]at e1;cases e1;rw[List.getElem?_set_self hiσ]at e2;cases e2;exact⟨u,r,.inl ⟨hk,by simp⟩⟩
   ·rw[List.getElem?_set_ne (Ne.symm hj)]at e2;obtain⟨u',r',q⟩:=hl j y v' e1 e2 e3;refine⟨u',r',?_⟩;rcases q with⟨k,e⟩|⟨k,c,e,z⟩
    ·refine .inl ⟨k,?_⟩;have:y≠x:=fun e=>hj (r6 hN e1 (e▸hi));simp[this,e]
    ·exact .inr ⟨k,c,e,z.sameBut hs (cne y c e)⟩
  ·obtain⟨w',z⟩:=I.cell y c e;exact⟨w',z.sameBut hs (cne y c e)⟩
  ·obtain⟨e,n,ne,nf,d⟩:=I.pin p hp;exact⟨(hs.2 p.1 ne).trans e,n,ne,nf,d⟩
 ·have hfn:X.fn x=true:=by
   rcases hf with z|z
   ·exact z
   ·rw[z]at hk;cases hk
  obtain⟨c,hc⟩:=I.ok.has x (.inl hk);obtain⟨w',z⟩:=I.cell x c hc;refine wpAny_storeName_cell I.ok.kind hk hc z (fun h' hc' hs=>?_);obtain⟨oc,hoc,hocd⟩:=id z;refine h { s with heap:=h' } ⟨I.ok,I.os,I.bare,⟨fun b o e n hb hx=>?_,fun b o e n hb hx=>?_,I.base.free,fun b o e hx=>?_,I.base.tups,I.base.frzs,I.base.tbls⟩,⟨m,hn.sameBut hs (Ne.symm (cne x c hc)),fun j y v' e1 e2 e3=>?_⟩,fun y c' e=>?_,I.free,I.freeC,fun p hp=>?_,tracked ⟨oc,hoc,I.freeC x c hc⟩ hs,by simpa using I.len⟩ ⟨c,hs,.inr hc⟩
  ·exact(hs.2 b (Nat.ne_of_lt (Nat.lt_of_lt_of_le (Heap.lt_size e) (I.ok.cab x c hfn hc)))).trans (I.base.keep b o e n hb hx)
  ·obtain⟨sl,e1⟩:=I.base.slot b o e n hb hx;exact⟨sl,(hs.2 b (Nat.ne_of_lt (Nat.lt_of_lt_of_le (Heap.lt_size e) (I.ok.cab x c hfn hc)))).trans e1⟩
  ·obtain⟨o',e1⟩:=I.base.there b o e hx;exact⟨o',(hs.2 b (Nat.ne_of_lt (Nat.lt_of_lt_of_le (Heap.lt_size e) (I.ok.cab x c hfn hc)))).trans e1⟩
  ·by_cases hj:j=i
   ·subst hj;rw[hi]at e1;cases e1;rw[List.getElem?_set_self hiσ]at e2;cases e2;exact⟨u,r,.inr ⟨.inl hk,c,hc,hc'⟩⟩
   ·rw[List.getElem?_set_ne (Ne.symm hj)]at e2;obtain⟨u',r',q⟩:=hl j y v' e1 e2 e3;refine⟨u',r',?_⟩;rcases q with q|⟨k,c',e,z'⟩
    ·exact .inl q
    ·refine .inr ⟨k,c',e,z'.sameBut hs ?_⟩;rintro rfl;exact hj (r6 hN e1 (I.ok.inj _ _ _ e hc▸hi))
  ·by_cases hcc:c'=c
   ·subst hcc;exact⟨_,hc'⟩
   ·obtain⟨w2,z2⟩:=I.cell y c' e;exact⟨w2,z2.sameBut hs hcc⟩
  ·obtain⟨e,n,ne,nf,d⟩:=I.pin p hp;refine⟨(hs.2 p.1 ?_).trans e,n,ne,nf,d⟩;intro q;rw[q,hoc]at e;have q':oc=p.2:=Option.some.inj e;exact d w' (by rw[<-q'];exact hocd)
theorem ox{M:Model}{A:Around}{E:Value->Shared->Prop}{i:Nat}{x:Str}{v:V}{u:Value}{Q:Unit->Shared->Prop}(I:aH X pins σ H s)(hN:X.N.Nodup)(hi:X.N[i]?=some x)(hx:Ed X.env.scope x)(r:br v u) (h:∀s',aH X pins (σ.set i (some v)) H s'->Q () s') (hf:X.fn x=true\/X.env.scope.names.lookup x=some .local:=by first|exact .inl rfl|exact .inr rfl|assumption):wpAny M A (storeName X.env x u) Q E s:=uD I hN hi hx r (fun s' I' _=>h s' I') hf
theorem aH.call'{s':Shared}{ch:List Addr}(I:aH X pins σ H s)(ho:s'.os=s.os)(u:Un (gW X.stack) ch H H' s.heap s'.heap)(hok:jb X.prog X.w H' s'.heap)(hg:AllBare s'.gens) (hch:∀b∈ch,(b∈X.ex\/X.s_0.heap.objs.size<=b)/\b≠X.env.locals/\(∀x c,X.env.cells.lookup x=some c->c≠b)/\∀p∈X.pn++pins,p.1≠b):aH X pins σ H' s':=by obtain⟨h',g',d',t',o'⟩:=s';have e:o'=s.os:=ho;subst e;exact I.call (g':=g') (t':=t') (d':=d') u hok hg hch
end
abbrev XK:=Value->Option Addr->Hp->Prop
abbrev St:=List (Option V)
abbrev VK:=V->Hp->Prop
abbrev TE:=St->Hp->VK->Prop
abbrev TT:=St->Hp->(Bool->Hp->Prop)->Prop
abbrev TA:=St->Hp->(List V->Hp->Prop)->Prop
structure bN where
 nx:St->Hp->Prop
 rt:VK
 bk:St->Hp->Prop:=fun _ _=>False
 ct:St->Hp->Prop:=fun _ _=>False
abbrev TS:=bN->St->Hp->Prop
def EP(X:Cx)(pins:List (Addr×Obj))(σ:St)(Q:VK)(u:Value)(s':Shared):Prop:=∃v H',aH X pins σ H' s'/\br v u/\Q v H'
def TP(X:Cx)(pins:List (Addr×Obj))(σ:St)(Q:Bool->Hp->Prop)(b:Bool)(s':Shared):Prop:=∃H',aH X pins σ H' s'/\Q b H'
def AP(X:Cx)(pins:List (Addr×Obj))(σ:St)(Q:List V->Hp->Prop)(us:List Value)(s':Shared):Prop:=∃vs H',aH X pins σ H' s'/\aQ vs us/\Q vs H'
def SP(X:Cx)(pins:List (Addr×Obj))(D:bN)(f:Flow)(s':Shared):Prop:=match f with
 |.next=>∃σ' H',aH X pins σ' H' s'/\D.nx σ' H'
 |.brk=>∃σ' H',aH X pins σ' H' s'/\D.bk σ' H'
 |.cont=>∃σ' H',aH X pins σ' H' s'/\D.ct σ' H'
 |.ret u=>∃v σ' H',aH X pins σ' H' s'/\br v u/\D.rt v H'
def PE(X:Cx)(e:Expr)(t:TE):Prop:=∀(pins:List (Addr×Obj))(s:Shared)(σ:St)(H:Hp)(Q:VK),aH X pins σ H s->t σ H Q->wpAny (model X.prog X.w) X.A (eval e X.env) (EP X pins σ Q) X.xe s
def PT(X:Cx)(e:Expr)(t:TT):Prop:=∀(pins:List (Addr×Obj))(s:Shared)(σ:St)(H:Hp)(Q:Bool->Hp->Prop),aH X pins σ H s->t σ H Q->wpAny (model X.prog X.w) X.A (isTrue e X.env (eval e X.env)) (TP X pins σ Q) X.xe s
def PW(X:Cx)(e:Expr)(t:TT):Prop:=∀(whole:Sem Value)(pins:List (Addr×Obj))(s:Shared)(σ:St)(H:Hp)(Q:Bool->Hp->Prop),aH X pins σ H s->t σ H Q->wpAny (model X.prog X.w) X.A (isTrue e X.env whole) (TP X pins σ Q) X.xe s
theorem PW.pt{X:Cx}{e:Expr}{t:TT}(h:PW X e t):PT X e t:=h _
def PA(X:Cx)(es:List Expr)(t:TA):Prop:=∀(pos:Pos)(pins:List (Addr×Obj))(s:Shared)(σ:St)(H:Hp)(Q:List V->Hp->Prop),aH X pins σ H s->t σ H Q->wpAny (model X.prog X.w) X.A (spliced (backTo pos (starEach es X.env))) (AP X pins σ Q) X.xe s
def PS(X:Cx)(st:Stmt)(t:TS):Prop:=∀(pins:List (Addr×Obj))(s:Shared)(σ:St)(H:Hp)(D:bN),aH X pins σ H s->t D σ H->wpAny (model X.prog X.w) X.A (exec st X.env) (SP X pins D) X.xe s
def zg(X:Cx)(st:List Stmt)(t:TS):Prop:=∀(pins:List (Addr×Obj))(s:Shared)(σ:St)(H:Hp)(D:bN),aH X pins σ H s->t D σ H->wpAny (model X.prog X.w) X.A (execs st X.env) (SP X pins D) X.xe s
theorem cA{α:Type}{t:Sem α}{Q Q':α->Shared->Prop}{M:Model}{A:Around}{E:Value->Shared->Prop}{s:Shared}(h:wpAny M A t Q E s)(hQ:∀a s,Q a s->Q' a s):wpAny M A t Q' E s:=wpAny_mono h hQ fun _ _ x=>x
end L2
namespace L2
open PySem PySem.Spec PyProof.Rows
section
variable{X:Cx}
def aZ(i:Nat):TE:=fun σ H Q=>∃v,σ[i]?=some (some v)/\Q v H
def tC(v:V):TE:=fun _ H Q=>Q v H
theorem E7 {i:Nat} {x:Str} {pos:Pos} (hN:X.N[i]?=some x) (hv:F7 X.env.scope x) (hd:(x==("__debug__":Str))=false:=by decide) (hcd:(x==("__classdict__":Str))=false:=by decide):PE X (.Name x pos) (aZ i):=by
 intro pins s σ H Q I h;obtain⟨v,e,h⟩:=h;obtain⟨m,hn,hl⟩:=I.loc;obtain⟨u,r,l⟩:=hl i x v hN e hv;have fin:EP X pins σ Q u s:=⟨v,H,I,r,h⟩
 rcases l with⟨hk,hm⟩|⟨hk,c,hc,hcell⟩
 ·exact wpAny_Name (wpAny_loadName_local I.ok.kind hk hn hm fin) hd
 ·rcases hk with hk|hk
  ·exact wpAny_Name (wpAny_loadName_cell I.ok.kind hk hc hcell fin) hd
  ·exact wpAny_Name (wpAny_loadName_free I.ok.kind hk hc hcell fin hcd) hd
theorem aA{i j pos}:PE X (.Constant (.int i) j pos) (tC (.int i)):=fun _ _ _ H _ I h=>wpAny_Constant_int ⟨.int i,H,I.tok _,⟨_,rfl⟩,h⟩
theorem Gv{b j pos}:PE X (.Constant (.bool b) j pos) (tC (.bl b)):=fun _ _ _ H _ I h=>Constant_bool ⟨.bl b,H,I,rfl,h⟩
def Gl(X:Cx)(x:Str):Prop:=X.env.kindOf x=some .globalImplicit
theorem jB{E:Value->Shared->Prop}{pins:List (Addr×Obj)}{s:Shared}{σ:St}{H:Hp}{x:Str}{u:Value}{pos:Pos}{Q:Value->Shared->Prop}(I:aH X pins σ H s)(hg:Gl X x)(hm:X.mg x=some u)(h:Q u s) (hd:(x==("__debug__":Str))=false:=by decide):wpAny (model X.prog X.w) X.A (eval (.Name x pos) X.env) Q E s:=Calls.Name_function_global I.ok.kind hg (Calls.loadGlobal_global (by rw[I.ok.glob];exact I.mod.glob.keeps I.bk) hm h) hd
theorem lQ{E:Value->Shared->Prop}{pins:List (Addr×Obj)}{s:Shared}{σ:St}{H:Hp}{x:Str}{u:Value}{pos:Pos}{Q:Value->Shared->Prop}(I:aH X pins σ H s)(hg:Gl X x)(hm:X.mg x=none)(hv:bootBuiltins x=some u)(h:Q u s) (hn:x≠"__name__":=by decide) (hd:(x==("__debug__":Str))=false:=by decide):wpAny (model X.prog X.w) X.A (eval (.Name x pos) X.env) Q E s:=by obtain⟨mb,h1,h2⟩:=I.mod.blt;exact Calls.Name_function_global I.ok.kind hg (Calls.loadGlobal_builtin (by rw[I.ok.glob];exact I.mod.glob.keeps I.bk) hm (by rw[I.ok.blt];exact h1.keeps I.bk) ((h2 x hn).trans hv) h) hd
theorem AJ {x:Str} {v:V} {u:Value} {pos:Pos} (hg:Gl X x) (hm:X.mg x=some u) (r:br v u) (hd:(x==("__debug__":Str))=false:=by decide):PE X (.Name x pos) (tC v):=fun _ _ _ H _ I h=>jB I hg hm ⟨v,H,I,r,h⟩ hd
variable{a b:Expr}{ta tb:TE}{pos:Pos}
def PC(X:Cx)(op:CmpOp)(a b:Expr)(t:TE):Prop:=∀(pins:List (Addr×Obj))(s:Shared)(σ:St)(H:Hp)(Q:VK),aH X pins σ H s->t σ H Q->wpAny (model X.prog X.w) X.A (eval a X.env) (fun v s₁=>wpAny (model X.prog X.w) X.A (eval b X.env) (fun u s₂=>wpAny (model X.prog X.w) X.A (compareOp op v u) (EP X pins σ Q) X.xe s₂) X.xe s₁) X.xe s
def tB(t:TE):TT:=fun σ H Q=>t σ H fun x H1=>∃c,x=.bl c/\Q c H1
theorem E8{op:CmpOp}{t:TE}(h:PC X op a b t)(h1:behindInMarks op b=false:=by first|exact nobehind _ (by decide) (by decide)|rfl):PE X (.Compare a [op] [b] pos) t:=fun pins s σ H Q I hw=>wpAny_Compare1 (h pins s σ H Q I hw) h1
theorem B0{op:CmpOp}{t:TE}(h:PC X op a b t)(h1:behindInMarks op b=false:=by first|exact nobehind _ (by decide) (by decide)|rfl):PT X (.Compare a [op] [b] pos) (tB t):=by intro pins s σ H Q I hw;refine wpAny_isTrue_Compare1 (cA (h pins s σ H _ I hw) fun v s1 h1=>cA h1 fun u s2 h2=>cA h2 fun c s3⟨x,H1,I1,r1,q1⟩=>?_) h1;obtain⟨d,rfl,q⟩:=q1;cases r1;exact wpAny_truthy_bool ⟨H1,I1,q⟩
variable{tA tB':TT}{rest:List Expr}
def FA(t u:TT):TT:=fun σ H Q=>t σ H fun c H1=>if c=true then u σ H1 Q else Q false H1
def Hj(t u:TT):TT:=fun σ H Q=>t σ H fun c H1=>if c=true then Q true H1 else u σ H1 Q
def FE(t:TT):TT:=fun σ H Q=>t σ H fun c H1=>Q (!c) H1
theorem vX(ha:PT X a tA):PW X (.BoolOp .And [a] pos) tA:=by
 intro wh pins s σ H Q I h;refine isTrue_and (cA (ha pins s σ H Q I h) fun c s1 e=>?_);cases c with
 |true=>exact isTrue_and_nil e
 |false=>exact e
theorem rB(ha:PT X a tA):PW X (.BoolOp .Or [a] pos) tA:=by
 intro wh pins s σ H Q I h;refine isTrue_or (cA (ha pins s σ H Q I h) fun c s1 e=>?_);cases c with
 |false=>exact isTrue_or_nil e
 |true=>exact e
theorem yP(ha:PT X a tA)(hb:PW X (.BoolOp .And (b::rest) pos) tB'):PW X (.BoolOp .And (a::b::rest) pos) (FA tA tB'):=by
 intro wh pins s σ H Q I h;refine isTrue_and (cA (ha pins s σ H _ I h) fun c s1⟨H1,I1,q1⟩=>?_);cases c with
 |true=>exact hb wh pins s1 σ H1 Q I1 q1
 |false=>exact⟨H1,I1,q1⟩
theorem uU(ha:PT X a tA)(hb:PW X (.BoolOp .Or (b::rest) pos) tB'):PW X (.BoolOp .Or (a::b::rest) pos) (Hj tA tB'):=by
 intro wh pins s σ H Q I h;refine isTrue_or (cA (ha pins s σ H _ I h) fun c s1⟨H1,I1,q1⟩=>?_);cases c with
 |true=>exact⟨H1,I1,q1⟩
 |false=>exact hb wh pins s1 σ H1 Q I1 q1
theorem yN(ha:PT X a tA):PT X (.UnaryOp .Not a pos) (FE tA):=by intro pins s σ H Q I h;exact isTrue_not (ha pins s σ H (fun c H1=>Q (!c) H1) I h)
end
end L2
namespace L2
open PySem PySem.Spec PyProof.Rows
def aV(K:W.Frag)(H:Hp)(a:Addr)(xs:List V):Prop:=Rd H a (.lst xs)\/∃(o:Obj) (its:Array Value) (n:Nat),K.lookup a=some o/\o.cls=.type "list"/\o.dict=none/\o.data=.seq its n/\its.size<=sizeLine/\aQ xs its.toList
def i6(K:W.Frag)(H:Hp)(a:Addr)(xs:List V):Prop:=Rd H a (.tup xs)\/∃(o:Obj) (its:Array Value) (n:Nat),K.lookup a=some o/\o.cls=.type "tuple"/\o.data=.seq its n/\its.size<=sizeLine/\aQ xs its.toList
def Hr:Value->Option V
 |.none=>some .non
 |.bool b=>some (.bl b)
 |.int i _=>some (.int i)
 |.str x _=>some (.str x)
 |.bytes b _=>some (.byt b)
 |.float b _=>some (.flt b)
 |.ref a=>some (.ref a)
 |.type n=>some (.ty n)
 |_=>none
theorem br.abs{x:V}{u:Value}(r:br x u):Hr u=some x:=by
 cases x with
 |non=>cases r;rfl
 |bl _=>cases r;rfl
 |int _=>obtain⟨t,rfl⟩:=r;rfl
 |str _=>obtain⟨t,rfl⟩:=r;rfl
 |byt _=>obtain⟨t,rfl⟩:=r;rfl
 |flt _=>obtain⟨t,rfl⟩:=r;rfl
 |ref _=>cases r;rfl
 |ty _=>cases r;rfl
theorem br.inj{x y:V}{u:Value}(r:br x u)(q:br y u):x=y:=Option.some.inj (r.abs.symm.trans q.abs)
theorem aQ.inj:∀{xs ys:List V}{us:List Value},aQ xs us->aQ ys us->xs=ys
 |_,_,_,.nil,.nil=>rfl
 |_,_,_,.cons r t,.cons r' t'=>by rw[r.inj r',aQ.inj t t']
section
variable{X:Cx}{pins:List (Addr×Obj)}{σ:St}{H:Hp}{s:Shared}{a:Addr}{xs ys:List V}
theorem aV.of{K:W.Frag}(h:H a=some (.lst xs)):aV K H a xs:=.inl (.inl h)
theorem i6.of{K:W.Frag}(h:H a=some (.tup xs)):i6 K H a xs:=.inl (.inl h)
theorem aH.list(I:aH X pins σ H s)(h:aV X.K H a xs):∃its:List Value,aQ xs its/\PlainL s.heap a its.toArray/\xs.length<=sizeLine:=by
 rcases h with h|⟨o,its,n,hk,hc,hd,hs,hz,r⟩
 ·obtain⟨z,its,n,r,e⟩:=h.ok I.hok;exact⟨its,r,⟨_,n,e,rfl,rfl,rfl⟩,z⟩
 ·refine⟨its.toList,r,⟨o,n,I.kIn a o hk,hc,hd,by simpa using hs⟩,?_⟩;have e:=r.length;simp only[Array.length_toList]at e;omega
theorem aH.tuple(I:aH X pins σ H s)(h:i6 X.K H a xs):∃its:List Value,aQ xs its/\IsTup s.heap a its.toArray/\xs.length<=sizeLine:=by
 rcases h with h|⟨o,its,n,hk,hc,hs,hz,r⟩
 ·obtain⟨z,its,r,p⟩:=h.ok I.hok;exact⟨its,r,p,z⟩
 ·refine⟨its.toList,r,⟨o,I.kIn a o hk,hc,n,by simpa using hs⟩,?_⟩;have e:=r.length;simp only[Array.length_toList]at e;omega
theorem aH.list_inj(I:aH X pins σ H s)(h:aV X.K H a xs)(h':aV X.K H a ys):xs=ys:=by
 obtain⟨its,r,⟨o,n,e,_,_,d⟩,_⟩:=I.list h;obtain⟨its',r',⟨o',n',e',_,_,d'⟩,_⟩:=I.list h';rw[e]at e';cases e';rw[d]at d';injection d' with d1 _
 have:its=its':=by simpa using congrArg Array.toList d1
 subst this;exact r.inj r'
end
abbrev Cx.wish(X:Cx)(E:Value->Shared->Prop):Cx:={ X with xe:=E }
abbrev Cx.nox(X:Cx):Cx:=X.wish fun _ _=>False
theorem Cx.Ok.wish{X:Cx}(ok:X.Ok)(E:Value->Shared->Prop):(X.wish E).Ok:=⟨ok.mod,ok.kind,ok.glob,ok.blt,ok.above,ok.inj,ok.has,ok.cab,ok.hd,ok.frames,ok.stk,ok.exf,ok.bs,ok.bsz,ok.noex,ok.exfs,ok.funs,ok.frf⟩
theorem Cx.Ok.unwish{X:Cx}{E:Value->Shared->Prop}(ok:(X.wish E).Ok):X.Ok:=⟨ok.mod,ok.kind,ok.glob,ok.blt,ok.above,ok.inj,ok.has,ok.cab,ok.hd,ok.frames,ok.stk,ok.exf,ok.bs,ok.bsz,ok.noex,ok.exfs,ok.funs,ok.frf⟩
section
variable{X:Cx}{pins:List (Addr×Obj)}{σ:St}{H:Hp}{s:Shared}{E:Value->Shared->Prop}
theorem aH.wish(I:aH X pins σ H s)(E:Value->Shared->Prop):aH (X.wish E) pins σ H s:=⟨I.ok.wish E,I.os,I.bare,I.base,I.loc,I.cell,I.free,I.freeC,I.pin,I.hok,I.len⟩
theorem aH.unwish(I:aH (X.wish E) pins σ H s):aH X pins σ H s:=⟨I.ok.unwish,I.os,I.bare,I.base,I.loc,I.cell,I.free,I.freeC,I.pin,I.hok,I.len⟩
theorem SP.unwish{D:bN}{f:Flow}{s':Shared}(h:SP (X.wish E) pins D f s'):SP X pins D f s':=by
 cases f with
 |next=>obtain⟨σ',H',I,q⟩:=h;exact⟨σ',H',I.unwish,q⟩
 |brk=>obtain⟨σ',H',I,q⟩:=h;exact⟨σ',H',I.unwish,q⟩
 |cont=>obtain⟨σ',H',I,q⟩:=h;exact⟨σ',H',I.unwish,q⟩
 |ret u=>obtain⟨v,σ',H',I,r,q⟩:=h;exact⟨v,σ',H',I.unwish,r,q⟩
theorem zg.nox{st:List Stmt}{t:TS}(h:zg X.nox st t):zg X st t:=fun pins s σ H D I hw=>wpAny_mono (h pins s σ H D (I.wish _) hw) (fun _ _ q=>q.unwish) fun _ _ z=>False.elim z
end
section
variable{X:Cx}{st:Stmt}{rest:List Stmt}{t u:TS}{e:Expr}{te:TE}{pos:Pos}
def cO:TS:=fun D σ H=>D.nx σ H
def ve(t u:TS):TS:=fun D σ H=>t { D with nx:=u D } σ H
theorem a8:zg X [] cO:=fun _ _ σ H _ I h=>wpAny_execs_nil ⟨σ,H,I,h⟩
theorem af(h1:PS X st t)(h2:zg X rest u):zg X (st::rest) (ve t u):=by
 intro pins s σ H D I h;refine wpAny_execs_cons (cA (h1 pins s σ H { D with nx:=u D } I h) fun f s1 q=>?_);cases f with
 |next=>obtain⟨σ',H',I',q⟩:=q;exact h2 pins s1 σ' H' D I' q
 |ret v=>exact q
 |brk=>exact q
 |cont=>exact q
theorem ak(h1:PS X st t):zg X [st] t:=by
 intro pins s σ H D I h;refine wpAny_execs_cons (cA (h1 pins s σ H D I h) fun f s1 q=>?_);cases f with
 |next=>exact wpAny_execs_nil q
 |ret v=>exact q
 |brk=>exact q
 |cont=>exact q
theorem aH.quiet{pins:List (Addr×Obj)}{σ:St}{H:Hp}{s:Shared}(I:aH X pins σ H s):interactive X.env=false:=by simp[interactive,I.ok.kind]
def ka(te:TE):TS:=fun D σ H=>te σ H fun _ H1=>D.nx σ H1
theorem aR(he:PE X e te)(hs:swapsWith e none pos.line X.env=pure false:=by rfl):PS X (.Expr e pos) (ka te):=by intro pins s σ H D I h;exact wpAny_Expr_any (cA (he pins s σ H _ I h) fun v s1⟨x,H1,I1,r1,q1⟩=>⟨σ,H1,I1,q1⟩) I.quiet hs
def ke(te:TE):TS:=fun D σ H=>te σ H D.rt
theorem aN(he:PE X e te):PS X (.Return (some e) pos) (ke te):=by intro pins s σ H D I h;exact wpAny_Return_some (cA (he pins s σ H _ I h) fun v s1⟨x,H1,I1,r1,q1⟩=>⟨x,σ,H1,I1,r1,q1⟩)
def F9:TS:=fun D _ H=>D.rt .non H
theorem Eb:PS X (.Return none pos) F9:=fun _ _ σ H _ I h=>wpAny_Return_none ⟨.non,σ,H,I,rfl,h⟩
def va(c:TT)(t u:TS):TS:=fun D σ H=>c σ H fun b H1=>if b=true then t D σ H1 else u D σ H1
theorem bC{c:Expr}{a b:List Stmt}{tc:TT}(hc:PT X c tc)(ha:zg X a t)(hb:zg X b u):PS X (.If c a b pos) (va tc t u):=by
 intro pins s σ H D I h;refine wpAny_If (cA (hc pins s σ H _ I h) fun d s1⟨H1,I1,q1⟩=>?_);cases d with
 |true=>exact ha pins s1 σ H1 D I1 q1
 |false=>exact hb pins s1 σ H1 D I1 q1
end
abbrev TG:=V->St->Hp->(St->Hp->Prop)->Prop
abbrev FU:=List V->St->Hp->(St->Hp->Prop)->Prop
def PG(X:Cx)(target:Expr)(t:TG):Prop:=∀(pins:List (Addr×Obj))(s:Shared)(σ:St)(H:Hp)(v:V)(u:Value)(Q:St->Hp->Prop),aH X pins σ H s->br v u->t v σ H Q->wpAny (model X.prog X.w) X.A (assign target X.env u) (fun _ s'=>∃σ' H',aH X pins σ' H' s'/\Q σ' H') X.xe s
def GU(X:Cx)(ts:List Expr)(t:FU):Prop:=∀(pins:List (Addr×Obj))(s:Shared)(σ:St)(H:Hp)(vs:List V)(us:List Value)(Q:St->Hp->Prop),aH X pins σ H s->aQ vs us->t vs σ H Q->wpAny (model X.prog X.w) X.A (assignInOrder ((assignEach ts X.env).map (·.2)) us) (fun _ s'=>∃σ' H',aH X pins σ' H' s'/\Q σ' H') X.xe s
abbrev C6:=V->V->V->Hp->(Hp->Prop)->Prop
def F1(X:Cx)(t:C6):Prop:=∀(pins:List (Addr×Obj))(s:Shared)(σ:St)(H:Hp)(o i v:V)(ov iv u:Value)(Q:Hp->Prop),aH X pins σ H s->br o ov->br i iv->br v u->t o i v H Q->wpAny (model X.prog X.w) X.A (setItem ov iv u) (fun _ s'=>∃H',aH X pins σ H' s'/\Q H') X.xe s
abbrev F8:=V->V->Hp->VK->Prop
def Hz(X:Cx)(op:Operator)(t:F8):Prop:=∀(pins:List (Addr×Obj))(s:Shared)(σ:St)(H:Hp)(x y:V)(v u:Value)(Q:VK),aH X pins σ H s->br x v->br y u->t x y H Q->wpAny (model X.prog X.w) X.A (inplaceOp op v u) (EP X pins σ Q) X.xe s
section
variable{X:Cx}{pos:Pos}
def bw(i:Nat):TG:=fun v σ H Q=>Q (σ.set i (some v)) H
theorem jw{i:Nat}{x:Str}(hN:X.N.Nodup)(hi:X.N[i]?=some x)(hx:Ed X.env.scope x)(hf:X.fn x=true\/X.env.scope.names.lookup x=some .local:=by first|exact .inl rfl|exact .inr rfl|assumption):PG X (.Name x pos) (bw i):=by intro pins s σ H v u Q I r h;exact wpAny_assign_Name (ox I hN hi hx r (fun s' I'=>⟨_,H,I',h⟩) hf)
def Fo:FU:=fun vs σ H Q=>vs=[]/\Q σ H
def xk(t:TG)(u:FU):FU:=fun vs σ H Q=>∃v r,vs=v::r/\t v σ H fun σ' H'=>u r σ' H' Q
theorem u5:GU X [] Fo:=by intro pins s σ H vs us Q I r h;obtain⟨e,h⟩:=h;subst e;cases r;exact assignInOrder_nil ⟨σ,H,I,h⟩
theorem jg{e:Expr}{es:List Expr}{t:TG}{u:FU}(h1:PG X e t)(h2:GU X es u) (hs:(assignEach (e::es) X.env).map (·.2)=assign e X.env::(assignEach es X.env).map (·.2):=by rfl):GU X (e::es) (xk t u):=by
 intro pins s σ H vs us Q I r h;obtain⟨v,vr,e1,h⟩:=h;subst e1;cases r with
 |cons r rr=>rw[hs];refine assignInOrder_cons (cA (h1 pins s σ H _ _ _ I r h) fun _ s1⟨σ1,H1,I1,q1⟩=>?_);exact h2 pins s1 σ1 H1 _ _ Q I1 rr q1
def Fu(K:W.Frag)(n:Nat)(t:FU):TG:=fun v σ H Q=>∃a xs,v=.ref a/\i6 K H a xs/\xs.length=n/\t xs σ H Q
theorem ze{es:List Expr}{k:Nat}{t:FU}{n:Nat}(hc:X.calm=true)(h:GU X es t) (hn:(assignEach es X.env).length=n:=by rfl) (hst:(assignEach es X.env).findIdx? (·.1)=none:=by rfl):PG X (.Tuple es k pos) (Fu X.K n t):=by intro pins s σ H v u Q I r hw;obtain⟨a,xs,e1,hq,hl,hw⟩:=hw;subst e1;cases r;obtain⟨its,rv,ht,hz⟩:=I.tuple hq;refine assign_Tuple_tuple (I.ok.hd hc) ht (by simp[hn,<-hl,rv.length]) hst fun h' hx=>?_;have I1:aH X pins σ H { s with heap:=h' }:=I.kept (t':=s.toks) fun b o e=>hx b o (Nat.ne_of_lt (Heap.lt_size e)) e;exact h pins _ σ H xs _ Q I1 (by simpa using rv) hw
def FS(to ti:TE)(t:C6):TG:=fun v σ H Q=>to σ H fun o H1=>ti σ H1 fun i H2=>t o i v H2 fun H3=>Q σ H3
theorem lC{o i:Expr}{to ti:TE}{t:C6}(ho:PE X o to)(hi:PE X i ti)(hs:F1 X t) (ha:∀v,assign (.Subscript o i pos) X.env v=(do
   let ov <-holding [v] (eval o X.env);let iv <-holding [v,ov] (eval i X.env);standAt pos;holding [v,ov,iv] (setItem ov iv v);release [v,ov,iv] []):=by intro _;rfl):PG X (.Subscript o i pos) (FS to ti t):=by
 intro pins s σ H v u Q I r h;rw[ha];refine wpAny_bind (wpAny_holding (cA (ho pins s σ H _ I h) fun ov s1⟨x,H1,I1,r1,q1⟩=>?_));refine wpAny_bind (wpAny_holding (cA (hi pins s1 σ H1 _ I1 q1) fun iv s2⟨y,H2,I2,r2,q2⟩=>?_));refine wpAny_bind (wpAny_standAt (wpAny_bind (wpAny_holding (cA (hs pins s2 σ H2 x y v ov iv u _ I2 r1 r2 r q2) fun _ s3⟨H3,I3,q3⟩=>?_))));exact wpAny_release ⟨σ,H3,I3,q3⟩
def fV(te:TE)(g:TG):TS:=fun D σ H=>te σ H fun x H1=>g x σ H1 D.nx
theorem kH{tg e:Expr}{te:TE}{g:TG}(he:PE X e te)(hg:PG X tg g)(hs:swapsWithSole [tg] e pos.line X.env=pure false:=by rfl)(hw:swappedStores [tg] e X.env=pure none:=by rfl) (h1:(assignEach [tg] X.env).map (·.2)=[assign tg X.env]:=by rfl):PS X (.Assign [tg] e pos) (fV te g):=by intro pins s σ H D I h;refine wpAny_Assign_stores (cA (he pins s σ H _ I h) fun v s1⟨x,H1,I1,r1,q1⟩=>?_) hs hw;rw[h1];exact cA (hg pins s1 σ H1 x v _ I1 r1 q1) fun _ s2 q=>q
theorem zm{i:Nat}{x:Str}{e:Expr}{te:TE}{pos':Pos}(hN:X.N.Nodup)(hi:X.N[i]?=some x)(hx:Ed X.env.scope x)(he:PE X e te)(hs:swapsWith e (some (.Name x pos')) pos.line X.env=pure false:=by rfl)(hf:X.fn x=true\/X.env.scope.names.lookup x=some .local:=by first|exact .inl rfl|exact .inr rfl|assumption):PS X (.Assign [.Name x pos'] e pos) (fV te (bw i)):=by intro pins s σ H D I h;refine wpAny_Assign_Name (cA (he pins s σ H _ I h) fun v s1⟨y,H1,I1,r1,q1⟩=>?_) hs;exact ox I1 hN hi hx r1 (fun s2 I2=>⟨_,H1,I2,q1⟩) hf
def DF(i:Nat)(te:TE)(ti:F8):TS:=fun D σ H=>∃x,σ[i]?=some (some x)/\te σ H fun y H1=>ti x y H1 fun z H2=>D.nx (σ.set i (some z)) H2
theorem zp{i:Nat}{x:Str}{e:Expr}{te:TE}{op:Operator}{ti:F8}{pos':Pos}(hN:X.N.Nodup)(hi:X.N[i]?=some x)(hx:Ed X.env.scope x)(he:PE X e te)(ho:Hz X op ti)(hf:X.fn x=true\/X.env.scope.names.lookup x=some .local:=by first|exact .inl rfl|exact .inr rfl|assumption):
  PS X (.AugAssign (.Name x pos') op e pos) (DF i te ti):=by
 intro pins s σ H D I h
 obtain⟨v,e1,h⟩:=h
 obtain⟨m,hn,hl⟩:=I.loc
 have vis:F7 X.env.scope x:=by rcases hx with k|k;exact .inl k;exact .inr (.inl k)
 obtain⟨u,r,l⟩:=hl i x v hi e1 vis
 refine wpAny_AugAssign_Name ?_
 have go:wpAny (model X.prog X.w) X.A (eval e X.env) (fun w s₂=>wpAny (model X.prog X.w) X.A (inplaceOp op u w) (fun r s₃=>wpAny (model X.prog X.w) X.A (storeName X.env x r) (fun _=>SP X pins D .next) X.xe s₃) X.xe s₂) X.xe s:=by
  refine cA (he pins s σ H _ I h) fun w s1⟨y,H1,I1,r1,q1⟩=>?_
  refine cA (ho pins s1 σ H1 v y u w _ I1 r r1 q1) fun z s2⟨zv,H2,I2,r2,q2⟩=>?_
  exact ox I2 hN hi hx r2 (fun s3 I3=>⟨_,H2,I3,q2⟩) hf
 rcases l with⟨hk,hm⟩|⟨hk,c,hc,hcell⟩
 ·exact wpAny_loadName_local I.ok.kind hk hn hm go
 ·rcases hk with hk|hk
  ·exact wpAny_loadName_cell I.ok.kind hk hc hcell go
  ·rcases hx with k|k
   ·have:X.env.scope.names.lookup x=some .free:=hk
    rw[k]at this;cases this
   ·have:X.env.scope.names.lookup x=some .free:=hk
    rw[k]at this;cases this
def BW(to ti te:TE)(tget:V->V->Hp->VK->Prop)(tip:F8)(tset:C6):TS:=fun D σ H=>to σ H fun o H1=>ti σ H1 fun i H2=>tget o i H2 fun x H3=>te σ H3 fun y H4=>tip x y H4 fun z H5=>tset o i z H5 fun H6=>D.nx σ H6
def GS(X:Cx)(t:V->V->Hp->VK->Prop):Prop:=∀(pins:List (Addr×Obj))(s:Shared)(σ:St)(H:Hp)(o i:V)(ov iv:Value)(Q:VK),aH X pins σ H s->br o ov->br i iv->t o i H Q->wpAny (model X.prog X.w) X.A (getItem ov iv) (EP X pins σ Q) X.xe s
theorem rj{o i e:Expr}{to ti te:TE}{tget:V->V->Hp->VK->Prop}{tip:F8}{tset:C6}{op:Operator}{tpos:Pos}(ho:PE X o to)(hi:PE X i ti)(hg:GS X tget)(he:PE X e te)(hp:Hz X op tip)(hs:F1 X tset) (ha:∀ov iv new,augStore i ov iv new=(do holding [new,ov,iv] (setItem ov iv new);release [new,ov,iv] [];pure .next):=by intros;rfl):PS X (.AugAssign (.Subscript o i tpos) op e pos) (BW to ti te tget tip tset):=by intro pins s σ H D I h;refine wpAny_AugAssign_SubscriptAny (cA (ho pins s σ H _ I h) fun ov s1⟨x1,H1,I1,r1,q1⟩=>?_) ha;refine cA (hi pins s1 σ H1 _ I1 q1) fun iv s2⟨x2,H2,I2,r2,q2⟩=>?_;refine cA (hg pins s2 σ H2 x1 x2 ov iv _ I2 r1 r2 q2) fun old s3⟨x3,H3,I3,r3,q3⟩=>?_;refine cA (he pins s3 σ H3 _ I3 q3) fun v s4⟨x4,H4,I4,r4,q4⟩=>?_;refine cA (hp pins s4 σ H4 x3 x4 old v _ I4 r3 r4 q4) fun new s5⟨x5,H5,I5,r5,q5⟩=>?_;exact cA (hs pins s5 σ H5 x1 x2 x5 ov iv new _ I5 r1 r2 r5 q5) fun _ s6⟨H6,I6,q6⟩=>⟨σ,H6,I6,q6⟩
end
section
variable{X:Cx}{pos:Pos}
def Fi(c:TT)(tb:TS):TS:=fun D σ H=>∃W:Nat->St->Hp->Prop,(∃m,W m σ H)/\∀m σ H,W m σ H->c σ H fun b H1=>if b=true then ∃N:St->Hp->Prop,(∀σ' H',N σ' H'->∃m',m'<m/\W m' σ' H')/\tb { D with nx:=N,ct:=N,bk:=D.nx } σ H1 else D.nx σ H1
theorem kG{c:Expr}{body:List Stmt}{tc:TT}{tb:TS}(hp:PassesOwn (model X.prog X.w) X.A X.env X.xe)(hc:PT X c tc)(hb:zg X body tb):PS X (.While c body [] pos) (Fi tc tb):=by
 intro pins s σ H D I h;obtain⟨W,⟨m0,w0⟩,turn⟩:=h;refine wpAny_While (codeAny_whileLoop (fun n s'=>∃σ' H',aH X pins σ' H' s'/\W n σ' H') ?_ m0 ⟨σ,H,I,w0⟩);rintro n s1 ⟨σ1,H1,I1,w1⟩;refine wpAny_passesOwn hp (cA (hc pins s1 σ1 H1 _ I1 (turn n σ1 H1 w1)) fun b s2⟨H2,I2,q2⟩=>?_);cases b with
 |true=>
  obtain⟨N,hN,q2⟩:=q2;rw[if_pos rfl];refine wpAny_passesOwn hp (cA (hb pins s2 σ1 H2 _ I2 q2) fun f s3 q3=>?_);cases f with
  |next=>obtain⟨σ3,H3,I3,n3⟩:=q3;obtain⟨m',hm,w3⟩:=hN σ3 H3 n3;exact⟨m',hm,σ3,H3,I3,w3⟩
  |cont=>obtain⟨σ3,H3,I3,n3⟩:=q3;obtain⟨m',hm,w3⟩:=hN σ3 H3 n3;exact⟨m',hm,σ3,H3,I3,w3⟩
  |brk=>exact q3
  |ret v=>exact q3
 |false=>rw[if_neg Bool.false_ne_true];exact wpAny_execs_nil ⟨σ1,H2,I2,q2⟩
end
structure It where
 go:Nat->Hp->Prop
 yld:Nat->Hp->V->Hp->Prop
 stop:Nat->Hp->Prop
def qJ(X:Cx)(pins:List (Addr×Obj))(H:Hp)(b:Addr):Prop:=H b=none/\b≠X.env.locals/\b∉X.fs/\(b∈X.ex\/X.s_0.heap.objs.size<=b)/\(∀x c,X.env.cells.lookup x=some c->c≠b)/\∀p∈X.pn++pins,p.1≠b
theorem aH.fpOk{X:Cx}{pins:List (Addr×Obj)}{σ:St}{H H':Hp}{s:Shared}{b:Addr}(I:aH X pins σ H s)(hb:s.heap.objs.size<=b)(hn:H' b=none):qJ X pins H' b:=by
 refine⟨hn,Nat.ne_of_gt (Nat.lt_of_lt_of_le I.lt hb),I.nofs hb,.inr (Nat.le_trans I.sz hb),fun x c e z=>?_,fun p hp z=>?_⟩
 ·obtain⟨v,q⟩:=I.cell x c e;exact absurd (Nat.lt_of_lt_of_le q.lt (by rw[z];exact hb)) (Nat.lt_irrefl _)
 ·exact absurd (Nat.lt_of_lt_of_le (Heap.lt_size (I.pin p hp).1) (by rw[z];exact hb)) (Nat.lt_irrefl _)
structure wF(P:Program)(w:World)(K:W.Frag)(tg:Expr)(J:It)(fp:List Addr)(it:Addr)(tn:Nat->Heap->Prop):Prop where
 mem:it∈fp
 obj:∀i h,tn i h->∀b∈fp,∃o,h.get? b=some o/\∀v,o.data≠.cell v
 keep:∀i h h',tn i h->(∀b∈fp,∀o,h.get? b=some o->h'.get? b=some o)->tn i h'
 item:∀(X:Cx),X.prog=P->X.w=w->X.K=K->X.calm=true->∀(i:Nat)(pins:List (Addr×Obj))(s:Shared)(σ:St)(H:Hp)(E:Value->Shared->Prop),aH X pins σ H s->(∀b∈fp,qJ X pins H b)->tn i s.heap->J.go i H->
  wpAny (model P w) X.A (pyNext (.ref it)) (fun r s1=>∃u,r=some u/\
   wpAny (model P w) X.A (letOwnedTupleGo tg (.ref it) u) (fun _ s2=>∃x H',aH X pins σ H' s2/\br x u/\J.yld i H x H'/\tn (i+1) s2.heap/\∀b∈fp,H' b=none) E s1) E s
 done:∀(X:Cx),X.prog=P->X.w=w->X.K=K->X.calm=true->∀(i:Nat)(pins:List (Addr×Obj))(s:Shared)(σ:St)(H:Hp)(E:Value->Shared->Prop),aH X pins σ H s->(∀b∈fp,qJ X pins H b)->tn i s.heap->J.stop i H->
  wpAny (model P w) X.A (pyNext (.ref it)) (fun r s1=>r=none/\aH X pins σ H s1) E s
 self:∀(A:Around)(i:Nat)(s:Shared)(Q:Value->Shared->Prop)(E:Value->Shared->Prop),tn i s.heap->Q (.ref it) s->wpAny (model P w) A (pyIter (.ref it)) Q E s
abbrev TI:=St->Hp->(It->Hp->Prop)->Prop
def G3(X:Cx)(pins:List (Addr×Obj))(σ:St)(tg:Expr)(R:It->Hp->Prop)(itv:Value)(s2:Shared):Prop:=∃(it:Addr)(fp:List Addr)(tn:Nat->Heap->Prop)(J:It)(H':Hp),itv=.ref it/\aH X pins σ H' s2/\wF X.prog X.w X.K tg J fp it tn/\tn 0 s2.heap/\(∀b∈fp,qJ X pins H' b)/\R J H'
def PI(X:Cx)(tg iter:Expr)(wi:TI):Prop:=∀(pins:List (Addr×Obj))(s:Shared)(σ:St)(H:Hp)(R:It->Hp->Prop),aH X pins σ H s->wi σ H R->wpAny (model X.prog X.w) X.A (eval iter X.env) (fun v s1=>wpAny (model X.prog X.w) X.A (pyIter v) (G3 X pins σ tg R) X.xe s1) X.xe s
theorem ym{M:Model}{A:Around}{E:Value->Shared->Prop}{s:Shared}{tg:Expr}{it:Addr}{u:Value}{o:Obj}{n:String}{vs:Array Value}{Q:Unit->Shared->Prop}(ho:s.heap.get? it=some o)(hc:o.cls=.type n)(hd:o.data=.fields vs)
  (hn:["enumerate","zip","dict_itemiterator","dict_reverseitemiterator","odict_iterator","itertools.zip_longest","itertools.pairwise"].contains n=false) (hQ:Q () s):wpAny M A (letOwnedTupleGo tg (.ref it) u) Q E s:=by
 unfold letOwnedTupleGo
 cases tg<;>first
  |exact wpAny_pure hQ
  |(cases u<;>first
    |exact wpAny_pure hQ
    |(refine wpAny_bind (wpAny_load ho ?_)
      rw[hc,hd]
      show wpAny M A (if(["enumerate","zip","dict_itemiterator","dict_reverseitemiterator","odict_iterator","itertools.zip_longest","itertools.pairwise"].contains n&&vs[0]?==some (rawInt _))=true then _ else _) Q E s
      rw[if_neg (by intro h;rw[hn,Bool.false_and]at h;cases h)]
      exact wpAny_pure hQ))
def z6(K:W.Frag)(a:Addr):It:=⟨fun i H=>∃xs x,aV K H a xs/\xs[i]?=some x,fun i H x H'=>H'=H/\∀xs,aV K H a xs->xs[i]?=some x,fun i H=>∃xs,aV K H a xs/\xs.length<=i⟩
def BV(lo:Int)(n:Nat):It:=⟨fun i _=>i<n,fun i H x H'=>H'=H/\x=.int (lo+i),fun i _=>n<=i⟩
theorem Bd{P:Program}{w:World}{K:W.Frag}{tg:Expr}(a it:Addr):wF P w K tg (z6 K a) [it] it (fun i h=>h.IsListIter it a i) where
 mem:=by simp
 obj:=fun i h st b hb=>by
  have e:b=it:=by simpa using hb
  subst e;obtain⟨o,e,c,d⟩:=st;exact⟨o,e,fun v z=>by rw[d]at z;cases z⟩
 keep:=fun i h h' st k=>st.at fun o e=>k it (by simp) o e;item:=by intro X hP hw hK hc i pins s σ H E I hf st hg;subst hP hw hK;obtain⟨xs,x,hq,hx⟩:=hg;obtain⟨its,rv,p,hz⟩:=I.list hq;obtain⟨u,hu,ru⟩:=rv.get hx;obtain⟨f0,f1,f2,f3,f4,f5⟩:=hf it (by simp);refine wpAny_pyNext_list_item st p.isList (x:=u) (by simpa using hu) fun h' st' sb=>?_;have I1:aH X pins σ H { s with heap:=h' }:=I.turned (t':=s.toks) (fun b o hb e=>(sb.2 b hb).trans e) f0 f1 f3 f4 f5;obtain⟨o,e,c,d⟩:=id st';exact⟨u,rfl,ym (s:={ s with heap:=h' }) e c d (by decide) ⟨x,H,I1,ru,⟨rfl,fun ys hy=>by rw[I.list_inj hy hq];exact hx⟩,st',fun b hb=>(hf b hb).1⟩⟩
 done:=by intro X hP hw hK hc i pins s σ H E I hf st hg;subst hP hw hK;obtain⟨xs,hq,hx⟩:=hg;obtain⟨its,rv,p,hz⟩:=I.list hq;obtain⟨f0,f1,f2,f3,f4,f5⟩:=hf it (by simp);have hl:=rv.length;exact wpAny_pyNext_list_end (I.ok.hd hc) st p.isList (by simp;omega) fun h' eb=>⟨rfl,I.turned (t':=s.toks) (fun b o hb e=>eb b o hb e) f0 f1 f3 f4 f5⟩
 self:=fun _ _ _ _ _ st h=>wpAny_pyIter_listiter st h
theorem zy{P:Program}{w:World}{K:W.Frag}{tg:Expr}(it:Addr)(lo:Int)(n:Nat):wF P w K tg (BV lo n) [it] it (fun i h=>IsRangeIter h it (lo+(i:Nat)*1) ((n:Int)-(i:Nat)) 1) where
 mem:=by simp
 obj:=fun i h st b hb=>by
  have e:b=it:=by simpa using hb
  subst e;exact⟨_,st,fun v z=>by have z':Data.fields _=Data.cell v:=z;cases z'⟩
 keep:=fun i h h' st k=>k it (by simp) _ st;item:=by intro X hP hw hK hc i pins s σ H E I hf st hg;subst hP hw hK;obtain⟨f0,f1,f2,f3,f4,f5⟩:=hf it (by simp);have W:=Walks.range (prog:=X.prog) (w:=X.w) (I.ok.hd hc) it lo 1 n;refine W.item i s _ _ hg st fun v h' tk hv st' kk=>?_;obtain⟨t,rfl⟩:=hv;have I1:aH X pins σ H { s with heap:=h',toks:=tk }:=I.turned (fun b o hb e=>kk b o (by simpa using hb) e) f0 f1 f3 f4 f5;refine⟨_,rfl,ym (s:={ s with heap:=h',toks:=tk }) (n:="range_iterator") st' rfl rfl (by decide) ⟨.int (lo+i),H,I1,⟨t,?_⟩,⟨rfl,rfl⟩,st',fun b hb=>(hf b hb).1⟩⟩;rw[Int.mul_one]
 done:=by intro X hP hw hK hc i pins s σ H E I hf st hg;subst hP hw hK;obtain⟨f0,f1,f2,f3,f4,f5⟩:=hf it (by simp);exact wpAny_pyNext_range_end (I.ok.hd hc) st (by have:n<=i:=hg;omega) fun h' eb=>⟨rfl,I.turned (t':=s.toks) (fun b o hb e=>eb b o hb e) f0 f1 f3 f4 f5⟩
 self:=fun _ _ _ _ _ st h=>wpAny_pyIter_rangeiter st h
end L2
namespace L2
open PySem PySem.Spec PyProof.Rows
section
variable{X:Cx}{tg:Expr}
def kX(K:W.Frag)(tl:TE):TI:=fun σ H R=>tl σ H fun x H1=>∃a,x=.ref a/\(∃xs,aV K H1 a xs)/\R (z6 K a) H1
theorem l6{l:Expr}{tl:TE}(hl:PE X l tl):PI X tg l (kX X.K tl):=by
 intro pins s σ H R I h;refine cA (hl pins s σ H _ I h) fun v s1⟨x,H1,I1,r1,q1⟩=>?_;obtain⟨a,e,⟨xs,hq⟩,q⟩:=q1;subst e;cases r1;obtain⟨its,rv,p,hz⟩:=I1.list hq;refine wpAny_pyIter_list p.isList ?_;refine⟨s1.heap.objs.size,[s1.heap.objs.size],_,_,H1,rfl,I1.kept (t':=s1.toks) fun b o e=>Heap.get?_push_of_some _ e,Bd a _,⟨_,Heap.get?_push_size _ rfl,rfl,rfl⟩,fun b hb=>?_,q⟩;have e:b=s1.heap.objs.size:=by simpa using hb
 subst e;exact I1.fpOk (Nat.le_refl _) (I1.hok.fresh (Nat.le_refl _))
def vb(wi:TI)(g:TG)(tb:TS):TS:=fun D σ H=>wi σ H fun J H1=>∃W:Nat->Nat->St->Hp->Prop,(∃m,W 0 m σ H1)/\∀i m σ H,W i m σ H->(J.stop i H/\D.nx σ H)\/(J.go i H/\∃N:St->Hp->Prop,(∀σ' H',N σ' H'->∃m',m'<m/\W (i+1) m' σ' H')/\∀x H',J.yld i H x H'->g x σ H' fun σ2 H2=>tb { D with nx:=N,ct:=N,bk:=D.nx } σ2 H2)
def tD(fp:List Addr)(h:Heap):List (Addr×Obj):=fp.filterMap fun b=>(h.get? b).map fun o=>(b,o)
theorem nB{fp:List Addr}{h:Heap}{b:Addr}{o:Obj}(hb:b∈fp)(e:h.get? b=some o):(b,o)∈tD fp h:=List.mem_filterMap.mpr ⟨b,hb,by rw[e];rfl⟩
theorem Bb{fp:List Addr}{h:Heap}{p:Addr×Obj}(hp:p∈tD fp h):p.1∈fp/\h.get? p.1=some p.2:=by
 obtain⟨b,hb,e⟩:=List.mem_filterMap.mp hp;cases q:h.get? b with
 |none=>rw[q]at e;cases e
 |some o=>rw[q]at e;have e':(b,o)=p:=Option.some.inj e;subst e';exact⟨hb,q⟩
theorem aH.pinned{pins:List (Addr×Obj)}{σ:St}{H:Hp}{s:Shared}{fp:List Addr}(I:aH X pins σ H s)(hf:∀b∈fp,qJ X pins H b)(ho:∀b∈fp,∃o,s.heap.get? b=some o/\∀v,o.data≠.cell v):aH X (pins++tD fp s.heap) σ H s:=I.pins_of fun p hp=>(List.mem_append.mp hp).elim (fun z=>I.pin p (List.mem_append_right _ z)) fun z=>by obtain⟨hb,e⟩:=Bb z;obtain⟨f0,f1,f2,_⟩:=hf p.1 hb;obtain⟨o,e',d⟩:=ho p.1 hb;rw[e]at e';cases e';exact⟨e,f0,f1,f2,d⟩
theorem aH.unpinned{pins pl:List (Addr×Obj)}{σ:St}{H:Hp}{s:Shared}(I:aH X (pins++pl) σ H s):aH X pins σ H s:=I.pins_of fun p hp=>I.pin p (List.mem_append_right _ (List.mem_append_left _ hp))
theorem cg{iter:Expr}{body:List Stmt}{wi:TI}{g:TG}{tb:TS}{pos:Pos}(hp:PassesOwn (model X.prog X.w) X.A X.env X.xe)(hc:X.calm=true)(hi:PI X tg iter wi)(hg:PG X tg g)(hb:zg X body tb) (hs:∀x,foldedSetIterable iter X.env x=pure x:=by intro _;rfl):PS X (.For tg iter body [] pos) (vb wi g tb):=by
 intro pins s σ H D I h;refine wpAny_For (cA (hi pins s σ H _ I h) fun v s1 h1=>cA h1 fun itv s2 h2=>?_) hs;obtain⟨it,fp,tn,J,H2,e,I2,T,st2,f2,W,⟨m0,w0⟩,turn⟩:=h2;subst e;have stat:∀{H':Hp},(∀b∈fp,H' b=none)->∀b∈fp,qJ X pins H' b:=fun hn b hb=>⟨hn b hb,(f2 b hb).2⟩
 refine codeAny_forLoop_any (fun n s'=>∃i σ' H',aH X pins σ' H' s'/\tn i s'.heap/\(∀b∈fp,H' b=none)/\W i n σ' H') ?_ m0 ⟨0,σ,H2,I2,st2,fun b hb=>(f2 b hb).1,w0⟩;rintro n s3 ⟨i,σ3,H3,I3,st3,fr3,w3⟩;rcases turn i n σ3 H3 w3 with⟨stop,qn⟩|⟨go,N,hN,step⟩
 ·refine wpAny_passesOwn hp (cA (T.done X rfl rfl rfl hc i pins s3 σ3 H3 X.xe I3 (stat fr3) st3 stop) fun r s4⟨hr,I4⟩=>?_);subst hr;exact wpAny_execs_nil ⟨σ3,H3,I4,qn⟩
 ·refine wpAny_passesOwn hp (cA (T.item X rfl rfl rfl hc i pins s3 σ3 H3 X.xe I3 (stat fr3) st3 go) fun r s4⟨u,hr,h4⟩=>?_);subst hr;refine wpAny_passesOwn hp (cA h4 fun _ s5⟨x,H5,I5,r5,y5,st5,fr5⟩=>?_);have I5':=I5.pinned (stat fr5) (T.obj _ _ st5);refine wpAny_passesOwn hp (cA (hg _ s5 σ3 H5 x u _ I5' r5 (step x H5 y5)) fun _ s6⟨σ6,H6,I6,q6⟩=>?_);refine wpAny_passesOwn hp (cA (hb _ s6 σ6 H6 _ I6 q6) fun f s7 q7=>?_);have again:∀{σ7:St}{H7:Hp},aH X (pins++tD fp s5.heap) σ7 H7 s7->N σ7 H7->∃m,m<n/\∃i σ' H',aH X pins σ' H' s7/\tn i s7.heap/\(∀b∈fp,H' b=none)/\W i m σ' H':=fun{σ7 H7}I7 n7=>by obtain⟨m',hm,w7⟩:=hN σ7 H7 n7;refine⟨m',hm,i+1,σ7,H7,I7.unpinned,T.keep _ _ _ st5 fun b hb o e=>(I7.pin (b,o) (List.mem_append_right _ (List.mem_append_right _ (nB hb e)))).1,fun b hb=>?_,w7⟩;obtain⟨o,e,d⟩:=T.obj _ _ st5 b hb;exact(I7.pin (b,o) (List.mem_append_right _ (List.mem_append_right _ (nB hb e)))).2.1
  cases f with
  |next=>obtain⟨σ7,H7,I7,n7⟩:=q7;exact again I7 n7
  |cont=>obtain⟨σ7,H7,I7,n7⟩:=q7;exact again I7 n7
  |brk=>obtain⟨σ7,H7,I7,q7⟩:=q7;exact⟨σ7,H7,I7.unpinned,q7⟩
  |ret v=>obtain⟨x7,σ7,H7,I7,r7,q7⟩:=q7;exact⟨x7,σ7,H7,I7.unpinned,r7,q7⟩
end
theorem tH{K:W.Frag}{a:Addr}{xs:List V}{g:TG}{tb:TS}{D:bN}{σ:St}{H:Hp}(Pv:Nat->St->Hp->Prop)(h0:Pv 0 σ H)(hl:∀i σ H,i<=xs.length->Pv i σ H->aV K H a xs) (hs:∀i x σ H,xs[i]?=some x->Pv i σ H->g x σ H fun σ2 H2=>tb { D with nx:=Pv (i+1),ct:=Pv (i+1),bk:=D.nx } σ2 H2) (hd:∀σ H,Pv xs.length σ H->D.nx σ H) :∃W:Nat->Nat->St->Hp->Prop,(∃m,W 0 m σ H)/\∀i m σ H,W i m σ H->((z6 K a).stop i H/\D.nx σ H)\/((z6 K a).go i H/\∃N:St->Hp->Prop,(∀σ' H',N σ' H'->∃m',m'<m/\W (i+1) m' σ' H')/\∀x H',(z6 K a).yld i H x H'->g x σ H' fun σ2 H2=>tb { D with nx:=N,ct:=N,bk:=D.nx } σ2 H2):=by
 refine⟨fun i m σ H=>m=xs.length-i/\i<=xs.length/\Pv i σ H,⟨xs.length,by simp,Nat.zero_le _,h0⟩,?_⟩;rintro i m σ H ⟨rfl,hi,p⟩;have q:=hl i σ H hi p;by_cases hlt:i<xs.length
 ·refine .inr ⟨⟨xs,xs[i],q,by simp[hlt]⟩,Pv (i+1),fun σ' H' p'=>⟨xs.length-(i+1),by omega,rfl,hlt,p'⟩,fun x H' y=>?_⟩;obtain⟨e,y⟩:=y;subst e;exact hs i x σ _ (y xs q) p
 ·have e:i=xs.length:=by omega
  subst e;exact .inl ⟨⟨xs,q,Nat.le_refl _⟩,hd σ H p⟩
theorem AV{lo:Int}{n:Nat}{g:TG}{tb:TS}{D:bN}{σ:St}{H:Hp}(Pv:Nat->St->Hp->Prop)(h0:Pv 0 σ H) (hs:∀i σ H,i<n->Pv i σ H->g (.int (lo+i)) σ H fun σ2 H2=>tb { D with nx:=Pv (i+1),ct:=Pv (i+1),bk:=D.nx } σ2 H2) (hd:∀σ H,Pv n σ H->D.nx σ H) :∃W:Nat->Nat->St->Hp->Prop,(∃m,W 0 m σ H)/\∀i m σ H,W i m σ H->((BV lo n).stop i H/\D.nx σ H)\/((BV lo n).go i H/\∃N:St->Hp->Prop,(∀σ' H',N σ' H'->∃m',m'<m/\W (i+1) m' σ' H')/\∀x H',(BV lo n).yld i H x H'->g x σ H' fun σ2 H2=>tb { D with nx:=N,ct:=N,bk:=D.nx } σ2 H2):=by
 refine⟨fun i m σ H=>m=n-i/\i<=n/\Pv i σ H,⟨n,by simp,Nat.zero_le _,h0⟩,?_⟩;rintro i m σ H ⟨rfl,hi,p⟩;by_cases hlt:i<n
 ·refine .inr ⟨hlt,Pv (i+1),fun σ' H' p'=>⟨n-(i+1),by omega,rfl,hlt,p'⟩,fun x H' y=>?_⟩;obtain⟨e,y⟩:=y;subst e y;exact hs i σ _ hlt p
 ·have e:i=n:=by omega
  subst e;exact .inl ⟨Nat.le_refl _,hd σ H p⟩
end L2
namespace L2
open PySem PySem.Spec PyProof.Rows
abbrev R2:=V->V->Hp->VK->Prop
def om(X:Cx)(f:Value->Value->Sem Value)(r:R2):Prop:=∀(pins:List (Addr×Obj))(s:Shared)(σ:St)(H:Hp)(x y:V)(v u:Value)(Q:VK),aH X pins σ H s->br x v->br y u->r x y H Q->wpAny (model X.prog X.w) X.A (f v u) (EP X pins σ Q) X.xe s
def GW(X:Cx)(f:Value->Sem Value)(r:V->Hp->VK->Prop):Prop:=∀(pins:List (Addr×Obj))(s:Shared)(σ:St)(H:Hp)(x:V)(v:Value)(Q:VK),aH X pins σ H s->br x v->r x H Q->wpAny (model X.prog X.w) X.A (f v) (EP X pins σ Q) X.xe s
def m7(X:Cx)(f:Value)(r:List V->Hp->VK->Prop):Prop:=∀(pins:List (Addr×Obj))(s:Shared)(σ:St)(H:Hp)(xs:List V)(us:List Value)(Q:VK),aH X pins σ H s->aQ xs us->r xs H Q->wpAny (model X.prog X.w) X.A (call f us) (EP X pins σ Q) X.xe s
def Hh(X:Cx)(r:V->Hp->(Bool->Hp->Prop)->Prop):Prop:=∀(pins:List (Addr×Obj))(s:Shared)(σ:St)(H:Hp)(x:V)(v:Value)(Q:Bool->Hp->Prop),aH X pins σ H s->br x v->r x H Q->wpAny (model X.prog X.w) X.A (truthy v) (TP X pins σ Q) X.xe s
def fB(r:R2)(ta tb:TE):TE:=fun σ H Q=>ta σ H fun x H1=>tb σ H1 fun y H2=>r x y H2 Q
def HM(r:V->Hp->VK->Prop)(ta:TE):TE:=fun σ H Q=>ta σ H fun x H1=>r x H1 Q
def rI(C:Int->Int->Prop)(g:Int->Int->V):R2:=fun x y H Q=>∃i j,x=.int i/\y=.int j/\C i j/\Q (g i j) H
def n9(g:Int->Int->V):R2:=fun x y H Q=>∃i j,x=.int i/\y=.int j/\Q (g i j) H
def rU(g:Int->V):V->Hp->VK->Prop:=fun x H Q=>∃i,x=.int i/\Q (g i) H
section
variable{X:Cx}{a b c:Expr}{ta tb tc:TE}{pos:Pos}
theorem F3(ha:PE X a ta)(hb:PE X b tb){pins:List (Addr×Obj)}{s:Shared}{σ:St}{H:Hp}{R:V->V->Hp->Prop}(I:aH X pins σ H s) (h:ta σ H fun x H1=>tb σ H1 fun y H2=>R x y H2) {Q:Value->Shared->Prop} {f:Value->Value->Sem Value} (hf:∀v u s2 x y H2,aH X pins σ H2 s2->br x v->br y u->R x y H2->wpAny (model X.prog X.w) X.A (f v u) Q X.xe s2) :wpAny (model X.prog X.w) X.A (eval a X.env) (fun v s₁=>wpAny (model X.prog X.w) X.A (eval b X.env) (fun u s₂=>wpAny (model X.prog X.w) X.A (f v u) Q X.xe s₂) X.xe s₁) X.xe s:=by refine cA (ha pins s σ H _ I h) fun v s1⟨x,H1,I1,r1,q1⟩=>?_;refine cA (hb pins s1 σ H1 _ I1 q1) fun u s2⟨y,H2,I2,r2,q2⟩=>?_;exact hf v u s2 x y H2 I2 r1 r2 q2
theorem aO{op:Operator}{r:R2}(ho:om X (binaryOp op) r)(ha:PE X a ta)(hb:PE X b tb):PE X (.BinOp a op b pos) (fB r ta tb):=by intro pins s σ H Q I h;exact wpAny_BinOp (F3 ha hb I h fun v u s2 x y H2 I2 rx ry q=>ho pins s2 σ H2 x y v u Q I2 rx ry q)
theorem EH{op:UnaryOp}{r:V->Hp->VK->Prop}(ho:GW X (unaryOp op) r)(ha:PE X a ta):PE X (.UnaryOp op a pos) (HM r ta):=by intro pins s σ H Q I h;exact UnaryOp_ (cA (ha pins s σ H _ I h) fun v s1⟨x,H1,I1,r1,q1⟩=>ho pins s1 σ H1 x v Q I1 r1 q1)
theorem GI{f:Value->Value->Sem Value}{C:Int->Int->Prop}{g:Int->Int->Int} (rule:∀(i j:Int)(t u:Tok)(s:Shared)(Q:Value->Shared->Prop)(E:Value->Shared->Prop),C i j->Q (.int (g i j) s.toks) { s with toks:=s.toks+1 }->wpAny (model X.prog X.w) X.A (f (.int i t) (.int j u)) Q E s) :om X f (rI C fun i j=>.int (g i j)):=by intro pins s σ H x y v u Q I rx ry h;obtain⟨i,j,rfl,rfl,hc,q⟩:=h;obtain⟨t,rfl⟩:=rx;obtain⟨t',rfl⟩:=ry;exact rule i j t t' s _ _ hc ⟨.int (g i j),H,I.tok _,⟨_,rfl⟩,q⟩
theorem vv{f:Value->Value->Sem Value}{g:Int->Int->Int} (rule:∀(i j:Int)(t u:Tok)(s:Shared)(Q:Value->Shared->Prop)(E:Value->Shared->Prop),Q (.int (g i j) s.toks) { s with toks:=s.toks+1 }->wpAny (model X.prog X.w) X.A (f (.int i t) (.int j u)) Q E s) :om X f (n9 fun i j=>.int (g i j)):=by intro pins s σ H x y v u Q I rx ry h;obtain⟨i,j,rfl,rfl,q⟩:=h;obtain⟨t,rfl⟩:=rx;obtain⟨t',rfl⟩:=ry;exact rule i j t t' s _ _ ⟨.int (g i j),H,I.tok _,⟨_,rfl⟩,q⟩
theorem E4{f:Value->Value->Sem Value}{g:Int->Int->Bool} (rule:∀(i j:Int)(t u:Tok)(s:Shared)(Q:Value->Shared->Prop)(E:Value->Shared->Prop),Q (.bool (g i j)) s->wpAny (model X.prog X.w) X.A (f (.int i t) (.int j u)) Q E s) :om X f (n9 fun i j=>.bl (g i j)):=by intro pins s σ H x y v u Q I rx ry h;obtain⟨i,j,rfl,rfl,q⟩:=h;obtain⟨t,rfl⟩:=rx;obtain⟨t',rfl⟩:=ry;exact rule i j t t' s _ _ ⟨.bl (g i j),H,I,rfl,q⟩
def G6(i j:Int):Prop:=0<j/\j<1073741824
def Hk(i j:Int):Prop:=0<=j/\j<=1000000/\i.natAbs<2^64
def zd(i j:Int):Prop:=(-(2^64)<i/\i<2^64)\/(-(2^64)<j/\j<2^64)
theorem zd.ok{i j:Int}(h:zd i j):IntMulOk i j:=by
 rcases h with⟨h1,h2⟩|⟨h1,h2⟩
 ·exact .of_left (intBits_le_64 h1 h2)
 ·exact .of_right (intBits_le_64 h1 h2)
theorem za(k:Nat):(0:Int)<=2^k:=by rw[two_pow_cast];exact Int.natCast_nonneg _
theorem gv:om X (binaryOp .Add) (n9 fun i j=>.int (i+j)):=vv fun _ _ _ _ _ _ _ q=>add_int q
theorem qd:om X (binaryOp .Sub) (n9 fun i j=>.int (i-j)):=vv fun _ _ _ _ _ _ _ q=>sub_int q
theorem zw:om X (binaryOp .Mult) (rI zd fun i j=>.int (i*j)):=GI fun _ _ _ _ _ _ _ hc q=>mul_int q hc.ok
theorem DI:om X (binaryOp .FloorDiv) (rI G6 fun i j=>.int (i/j)):=GI fun i j _ _ _ _ _ hc q=>by have h1:(0:Int)<j:=hc.1;have h2:j<1073741824:=hc.2;exact floordiv_int (by omega) (by rw[Int.fdiv_eq_ediv_of_nonneg i (by omega)];exact q) (.inl (PyProof.noPylong_small (by omega)))
theorem Fc:om X (binaryOp .Mod) (rI (fun _ j=>0<j) fun i j=>.int (i%j)):=GI fun i j _ _ _ _ _ hc q=>by have h1:(0:Int)<j:=hc;exact mod_int' (by omega) (by rw[Int.fmod_eq_emod_of_nonneg i (by omega)];exact q)
theorem Cg:om X (binaryOp .LShift) (rI Hk fun i j=>.int (i*2^j.toNat)):=GI fun _ _ _ _ _ _ _ hc q=>lshift_int_small hc.1 hc.2.1 hc.2.2 q
theorem B1:om X (binaryOp .RShift) (rI (fun _ j=>0<=j) fun i j=>.int (i/2^j.toNat)):=GI fun i j _ _ _ _ _ hc q=>rshift_int hc (by rw[Int.fdiv_eq_ediv_of_nonneg i (za _)];exact q)
theorem di:om X (binaryOp .BitAnd) (n9 fun i j=>.int (Builtin.bitAnd i j)):=vv fun _ _ _ _ _ _ _ q=>and_int q
theorem oo:om X (binaryOp .BitOr) (n9 fun i j=>.int (Builtin.bitOr i j)):=vv fun _ _ _ _ _ _ _ q=>or_int q
theorem FB:om X (binaryOp .BitXor) (n9 fun i j=>.int (Builtin.bitXor i j)):=vv fun _ _ _ _ _ _ _ q=>xor_int q
theorem zR:om X (inplaceOp .Add) (n9 fun i j=>.int (i+j)):=vv fun _ _ _ _ _ _ _ q=>iadd_int q
theorem zQ:om X (inplaceOp .Sub) (n9 fun i j=>.int (i-j)):=vv fun _ _ _ _ _ _ _ q=>isub_int q
theorem zW:om X (inplaceOp .BitAnd) (n9 fun i j=>.int (Builtin.bitAnd i j)):=vv fun _ _ _ _ _ _ _ q=>iand_int q
theorem ir:om X (inplaceOp .BitOr) (n9 fun i j=>.int (Builtin.bitOr i j)):=vv fun _ _ _ _ _ _ _ q=>ior_int q
theorem HC{f:Value->Sem Value}{g:Int->Int} (rule:∀(i:Int)(t:Tok)(s:Shared)(Q:Value->Shared->Prop)(E:Value->Shared->Prop),Q (.int (g i) s.toks) { s with toks:=s.toks+1 }->wpAny (model X.prog X.w) X.A (f (.int i t)) Q E s) :GW X f (rU fun i=>.int (g i)):=by intro pins s σ H x v Q I rx h;obtain⟨i,rfl,q⟩:=h;obtain⟨t,rfl⟩:=rx;exact rule i t s _ _ ⟨.int (g i),H,I.tok _,⟨_,rfl⟩,q⟩
theorem Fn:GW X (unaryOp .USub) (rU fun i=>.int (-i)):=HC fun _ _ _ _ _ q=>neg_int q
theorem FZ:GW X (unaryOp .Invert) (rU fun i=>.int (Builtin.bitNot i)):=HC fun _ _ _ _ _ q=>invert_int q
end
def GE:V->V->Bool
 |.non,.non=>true|.non,.int _=>true|.int _,.non=>true|.non,.bl _=>true|.bl _,.non=>true|.non,.str _=>true|.str _,.non=>true
 |.int _,.int _=>true|.bl _,.bl _=>true|.str _,.str _=>true|.byt _,.byt _=>true
 |.int _,.str _=>true|.str _,.int _=>true|.bl _,.str _=>true|.str _,.bl _=>true
 |_,_=>false
def GY:R2:=fun x y H Q=>GE x y=true/\Q (.bl (decide (x=y))) H
def HI:R2:=fun x y H Q=>GE x y=true/\Q (.bl (!decide (x=y))) H
theorem zN{i j:Int}:decide (V.int i=V.int j)=(i==j):=by rw[Bool.eq_iff_iff];simp
theorem BZ{i j:Bool}:decide (V.bl i=V.bl j)=(i==j):=by rw[Bool.eq_iff_iff];simp
theorem Ax{i j:Str}:decide (V.str i=V.str j)=(i==j):=by rw[Bool.eq_iff_iff];simp
theorem Ap{i j:Array UInt8}:decide (V.byt i=V.byt j)=(i.toList==j.toList):=by rw[Bool.eq_iff_iff];cases i;cases j;simp
section
variable{X:Cx}{a b c:Expr}{ta tb tc:TE}{pos:Pos}
theorem bK{pins:List (Addr×Obj)}{σ:St}{H:Hp}{s:Shared}{Q:VK}{k k':Bool}(I:aH X pins σ H s)(q:Q (.bl k) H)(e:k=k'):EP X pins σ Q (.bool k') s:=by subst e;exact⟨.bl k,H,I,rfl,q⟩
theorem d5:om X (compareOp .Eq) GY:=by
 intro pins s σ H x y v u Q I rx ry h;obtain⟨hs,q⟩:=h;cases x with
 |non=>
  cases rx;cases y with
  |non=>cases ry;exact PySem.EqNone.eq_none_none (bK I q (by simp))
  |bl j=>cases ry;exact PySem.EqNone.eq_none_bool (bK I q (by simp))
  |int j=>obtain⟨t',rfl⟩:=ry;exact PySem.EqNone.eq_none_int (bK I q (by simp))
  |str j=>obtain⟨t',rfl⟩:=ry;exact PySem.EqNone.eq_none_str (bK I q (by simp))
  |_=>exact absurd (show false=true from hs) Bool.false_ne_true
 |bl i=>
  cases rx;cases y with
  |non=>cases ry;exact PySem.EqNone.eq_bool_none (bK I q (by simp))
  |bl j=>cases ry;exact eq_bool (bK I q BZ)
  |str j=>obtain⟨t',rfl⟩:=ry;exact PySem.EqMixed.eq_bool_str (bK I q (by simp))
  |_=>exact absurd (show false=true from hs) Bool.false_ne_true
 |int i=>
  obtain⟨t,rfl⟩:=rx;cases y with
  |non=>cases ry;exact PySem.EqNone.eq_int_none (bK I q (by simp))
  |int j=>obtain⟨t',rfl⟩:=ry;exact eq_int (bK I q zN)
  |str j=>obtain⟨t',rfl⟩:=ry;exact PySem.EqMixed.eq_int_str (bK I q (by simp))
  |_=>exact absurd (show false=true from hs) Bool.false_ne_true
 |str i=>
  obtain⟨t,rfl⟩:=rx;cases y with
  |non=>cases ry;exact PySem.EqNone.eq_str_none (bK I q (by simp))
  |bl j=>cases ry;exact PySem.EqMixed.eq_str_bool (bK I q (by simp))
  |int j=>obtain⟨t',rfl⟩:=ry;exact PySem.EqMixed.eq_str_int (bK I q (by simp))
  |str j=>obtain⟨t',rfl⟩:=ry;exact eq_str (bK I q Ax)
  |_=>exact absurd (show false=true from hs) Bool.false_ne_true
 |byt i=>
  obtain⟨t,rfl⟩:=rx;cases y with
  |byt j=>obtain⟨t',rfl⟩:=ry;exact W.eq_bytes (bK I q Ap)
  |_=>exact absurd (show false=true from hs) Bool.false_ne_true
 |_=>cases y<;>exact absurd (show false=true from hs) Bool.false_ne_true
theorem Cz:om X (compareOp .NotEq) HI:=by
 intro pins s σ H x y v u Q I rx ry h;obtain⟨hs,q⟩:=h;cases x with
 |non=>
  cases rx;cases y with
  |non=>cases ry;exact PySem.EqNone.ne_none_none (bK I q (by simp))
  |bl j=>cases ry;exact PySem.EqNone.ne_none_bool (bK I q (by simp))
  |int j=>obtain⟨t',rfl⟩:=ry;exact PySem.EqNone.ne_none_int (bK I q (by simp))
  |str j=>obtain⟨t',rfl⟩:=ry;exact PySem.EqNone.ne_none_str (bK I q (by simp))
  |_=>exact absurd (show false=true from hs) Bool.false_ne_true
 |bl i=>
  cases rx;cases y with
  |non=>cases ry;exact PySem.EqNone.ne_bool_none (bK I q (by simp))
  |bl j=>cases ry;exact ne_bool (bK I q (congrArg not BZ))
  |str j=>obtain⟨t',rfl⟩:=ry;exact PySem.EqMixed.ne_bool_str (bK I q (by simp))
  |_=>exact absurd (show false=true from hs) Bool.false_ne_true
 |int i=>
  obtain⟨t,rfl⟩:=rx;cases y with
  |non=>cases ry;exact PySem.EqNone.ne_int_none (bK I q (by simp))
  |int j=>obtain⟨t',rfl⟩:=ry;exact ne_int (bK I q (congrArg not zN))
  |str j=>obtain⟨t',rfl⟩:=ry;exact PySem.EqMixed.ne_int_str (bK I q (by simp))
  |_=>exact absurd (show false=true from hs) Bool.false_ne_true
 |str i=>
  obtain⟨t,rfl⟩:=rx;cases y with
  |non=>cases ry;exact PySem.EqNone.ne_str_none (bK I q (by simp))
  |bl j=>cases ry;exact PySem.EqMixed.ne_str_bool (bK I q (by simp))
  |int j=>obtain⟨t',rfl⟩:=ry;exact PySem.EqMixed.ne_str_int (bK I q (by simp))
  |str j=>obtain⟨t',rfl⟩:=ry;exact ne_str (bK I q (congrArg not Ax))
  |_=>exact absurd (show false=true from hs) Bool.false_ne_true
 |byt i=>
  obtain⟨t,rfl⟩:=rx;cases y with
  |byt j=>obtain⟨t',rfl⟩:=ry;exact W.ne_bytes (bK I q (congrArg not Ap))
  |_=>exact absurd (show false=true from hs) Bool.false_ne_true
 |_=>cases y<;>exact absurd (show false=true from hs) Bool.false_ne_true
theorem uw:om X (compareOp .Lt) (n9 fun i j=>.bl (decide (i<j))):=E4 fun _ _ _ _ _ _ _ q=>lt_int q
theorem ow:om X (compareOp .Gt) (n9 fun i j=>.bl (decide (j<i))):=E4 fun _ _ _ _ _ _ _ q=>gt_int q
theorem AB:om X (compareOp .GtE) (n9 fun i j=>.bl (decide (j<=i))):=E4 fun _ _ _ _ _ _ _ q=>ge_int q
theorem aX(b:Expr){op:CmpOp}(h:op≠.In:=by decide)(h2:op≠.NotIn:=by decide):behindInMarks op b=false:=by
 have e1:(op==CmpOp.In)=false:=by cases op<;>first|rfl|exact absurd rfl h
 have e2:(op==CmpOp.NotIn)=false:=by cases op<;>first|rfl|exact absurd rfl h2
 cases b<;>simp[behindInMarks,e1,e2]
theorem vN{op:CmpOp}{r:R2}(ho:om X (compareOp op) r)(ha:PE X a ta)(hb:PE X b tb)(hm:behindInMarks op b=false):PE X (.Compare a [op] [b] pos) (fB r ta tb):=by intro pins s σ H Q I h;exact wpAny_Compare1 (F3 ha hb I h fun v u s2 x y H2 I2 rx ry q=>ho pins s2 σ H2 x y v u Q I2 rx ry q) hm
def uF(t:TE):TT:=fun σ H Q=>t σ H fun x H'=>∃k,x=.bl k/\Q k H'
theorem aK{op:CmpOp}{r:R2}(ho:om X (compareOp op) r)(ha:PE X a ta)(hb:PE X b tb)(hm:behindInMarks op b=false):PT X (.Compare a [op] [b] pos) (uF (fB r ta tb)):=by intro pins s σ H Q I h;refine wpAny_isTrue_Compare1 (cA (ha pins s σ H _ I h) fun v s1⟨x,H1,I1,r1,q1⟩=>cA (hb pins s1 σ H1 _ I1 q1) fun u s2⟨y,H2,I2,r2,q2⟩=>cA (ho pins s2 σ H2 x y v u _ I2 r1 r2 q2) fun c s3⟨z,H3,I3,r3,k,e,q3⟩=>?_) hm;subst e;cases r3;exact wpAny_truthy_bool ⟨H3,I3,q3⟩
def vh(K:W.Frag)(x:V)(H:Hp)(k:Bool):Prop:=match x with
 |.non=>k=false
 |.bl b=>k=b
 |.int i=>k=(i !=0)
 |.str y=>y.length<=sizeLine/\k=((y.length:Int) !=0)
 |.byt y=>y.size<=sizeLine/\k=((y.size:Int) !=0)
 |.ref p=>(∃xs,aV K H p xs/\k=!xs.isEmpty)\/(∃xs,i6 K H p xs/\k=!xs.isEmpty)\/∃kvs,H p=some (.dK kvs)/\k=!kvs.isEmpty
 |_=>False
theorem zz{κ:Type}{kvs:List (κ×V)}{vs:List (κ×Value)}(r:KV kvs vs):(!vs.isEmpty)=!kvs.isEmpty:=by cases r<;>rfl
theorem sD{xs:List V}{its:List Value}(r:aQ xs its):(!its.toArray.isEmpty)=!xs.isEmpty:=by cases r<;>simp
theorem nM:(sizeLine:Nat)<2^63:=by rw[sizeLine_eq];decide
theorem Fg:Hh X (fun x H Q=>∃k,vh X.K x H k/\Q k H):=by
 intro pins s σ H x v Q I rx h;obtain⟨k,e,q⟩:=h;have hl:=nM;have hs:sizeLine=16777216:=sizeLine_eq;cases x with
 |non=>cases rx;have e':k=false:=e;subst e';exact truthy_none ⟨H,I,q⟩
 |bl b=>cases rx;have e':k=b:=e;subst e';exact wpAny_truthy_bool ⟨H,I,q⟩
 |int i=>obtain⟨t,rfl⟩:=rx;have e':k=(i !=0):=e;subst e';exact PySem.P.truthy_int ⟨H,I,q⟩
 |str y=>obtain⟨t,rfl⟩:=rx;obtain⟨hy,e'⟩:y.length<=sizeLine/\k=((y.length:Int) !=0):=e;subst e';exact PySem.P.truthy_str (by omega) ⟨H,I.tok _,q⟩
 |byt y=>obtain⟨t,rfl⟩:=rx;obtain⟨hy,e'⟩:y.size<=sizeLine/\k=((y.size:Int) !=0):=e;subst e';exact W.truthy_bytes (by omega) ⟨H,I.tok _,q⟩
 |ref p=>
  cases rx;have e':(∃xs,aV X.K H p xs/\k=!xs.isEmpty)\/(∃xs,i6 X.K H p xs/\k=!xs.isEmpty)\/∃kvs,H p=some (.dK kvs)/\k=!kvs.isEmpty:=e;rcases e' with⟨xs,hx,e'⟩|⟨xs,hx,e'⟩|⟨kvs,hx,e'⟩
  ·subst e';obtain⟨its,r,pl,hz⟩:=I.list hx;have hlen:=r.length;exact wpAny_truthy_list pl.isList (by simp only[List.size_toArray];omega) ⟨H,I.tok _,by rw[sD r];exact q⟩
  ·subst e';obtain⟨its,r,pl,hz⟩:=I.tuple hx;have hlen:=r.length;exact truthy_tuple pl (by simp only[List.size_toArray];omega) ⟨H,I.tok _,by rw[sD r];exact q⟩
  ·subst e';obtain⟨hz,hS,vs,r,m⟩:kvs.length<=sizeLine/\(p==sysModules)=false/\∃vs,KV kvs vs/\s.heap.DictOf (cb X.prog X.w) p vs:=I.hok p _ hx;have hlen:kvs.length=vs.length:=Paired.length r;exact wpAny_truthy_dict hS m (by omega) ⟨H,I.tok _,by rw[zz r];exact q⟩
 |_=>exact(show False from e).elim
theorem Cf(ha:PE X a ta)(he:∀whole,isTrue a X.env whole=(do let v <-whole;standAt a.pos;holding [v] (truthy v))):PT X a (fun σ H Q=>ta σ H fun x H'=>∃k,vh X.K x H' k/\Q k H'):=by intro pins s σ H Q I h;exact isTrue_plain (cA (ha pins s σ H _ I h) fun v s1⟨x,H1,I1,r1,q1⟩=>Fg pins s1 σ H1 x v Q I1 r1 q1) (he _)
theorem zM{x:V}{us:List Value}(r:aQ [x] us):∃u,us=[u]/\br x u:=by
 cases r with
 |cons r1 r2=>cases r2;exact⟨_,rfl,r1⟩
theorem GD{x y:V}{us:List Value}(r:aQ [x,y] us):∃u w',us=[u,w']/\br x u/\br y w':=by
 cases r with
 |cons r1 r2=>
  cases r2 with
  |cons r3 r4=>cases r4;exact⟨_,_,rfl,r1,r3⟩
theorem oG:m7 X (.builtin "abs") (fun xs H Q=>∃i,xs=[.int i]/\Q (.int (if i<0 then -i else i)) H):=by intro pins s σ H xs us Q I r h;obtain⟨i,rfl,q⟩:=h;obtain⟨u,rfl,t,rfl⟩:=zM r;exact call_abs_int fun u tk=>⟨.int (if i<0 then -i else i),H,I.tok _,⟨_,rfl⟩,q⟩
theorem Bk (hc:X.calm=true):m7 X (.builtin "max") (fun xs H Q=>∃i j,xs=[.int i,.int j]/\Q (.int (if j>i then j else i)) H):=by
 intro pins s σ H xs us Q I r h;obtain⟨i,j,rfl,q⟩:=h;obtain⟨u,w',rfl,⟨t,rfl⟩,⟨t',rfl⟩⟩:=GD r;refine max_two_ints (I.ok.hd hc) fun h' tk k=>⟨_,H,I.kept k,?_,q⟩
 by_cases hj:j>i
 ·rw[if_pos hj,if_pos hj];exact⟨_,rfl⟩
 ·rw[if_neg hj,if_neg hj];exact⟨_,rfl⟩
end
end L2
namespace L2
open PySem PySem.Spec PyProof.Rows
structure y_(h:Heap)(x dx C:Addr)(mA:Str->Option Value):Prop where
 obj:h.get? x=some (W.instObj C dx)
 ns:h.Ns1 dx mA
 ne:dx≠x
theorem Bh{h:Heap}{dx:Addr}{mA:Str->Option Value}(n:h.Ns1 dx mA):∃od,h.get? dx=some od/\∀name,W.lookIn name od=some (mA name):=by
 obtain⟨o,es,ep,ho,hd,hk,_,hm⟩:=n;refine⟨o,ho,fun name=>?_⟩;have e:=hm name;unfold nsFind findBy at e;rw[<-Array.find?_toList]at e;unfold W.lookIn;rw[hd];dsimp only;split
 ·rename_i y q;rw[q]at e;exact congrArg some e
 ·rename_i q;rw[q]at e;have a:es.toList.any (·.refKey)=false:=by rw[List.any_eq_false];intro y hy;obtain⟨z,t,hkey⟩:=hk y (Array.mem_toList_iff.mp hy);simp[DictEntry.refKey,hkey]
  have a':¬es.toList.any (·.refKey)=true:=by rw[a];exact Bool.false_ne_true
  rw[if_neg a'];exact congrArg some e
theorem y_.look{h:Heap}{x dx C:Addr}{mA:Str->Option Value}(I:y_ h x dx C mA):∃od,W.InstAt h x (W.instObj C dx) C (some od)/\∀name,W.lookIn name od=some (mA name):=
 let⟨od,ho,hl⟩:=Bh I.ns
 ⟨od,⟨I.obj,rfl,rfl,ho⟩,hl⟩
section
variable{prog:Program}{w:World}{A:Around}{E:Value->Shared->Prop}{s:Shared}{K:W.Frag}{x dx C f:Addr}{mA:Str->Option Value}{name:Str}{v:Value}
theorem Ep{expr:Bool}{Q:Value->Shared->Prop}(X:K.In s.heap)(I:y_ s.heap x dx C mA)(hg:W.plainGet K C name=true)(hh:W.hasDictIn K C=true) (ha:W.findIn K (.ref C) name=some none) (hv:mA name=some v) (hv':W.handedIn v=true) (h:Q v { s with toks:=s.toks+1 }) :wpAny (model prog w) A (getAttr (.ref x) name expr) Q E s:=by obtain⟨od,J,hl⟩:=I.look;exact W.get_value X J (W.plainGet_of hg).1 (W.findObj_own hh ha rfl (by rw[hl,hv])) hv' h
theorem Dd{pl:Sem Bool}{Q:Value×List Value->Shared->Prop}(X:K.In s.heap)(I:y_ s.heap x dx C mA)(hg:W.plainGet K C name=true) (hf:W.findIn K (.ref C) name=some (some (.ref f))) (ht:W.isFn K (.ref f)=true) (hv:mA name=none) (h:Q (.ref f,[.ref x]) s) :wpAny (model prog w) A (getMethod (.ref x) name pl) Q E s:=by obtain⟨od,J,hl⟩:=I.look;exact W.method_fn X J (W.plainGet_of hg).1 (W.plainGet_of hg).2 hf (beq_iff_eq.mp ht) (by show(W.lookIn name od).map (·.isSome)=some false;rw[hl,hv];rfl) h
theorem D0{ns:List Str}{Q:Unit->Shared->Prop}(X:K.In s.heap)(I:y_ s.heap x dx C mA) (hs:W.findIn K (.ref C) "__setattr__"=some (some (.builtin "object.__setattr__"))) (hp:W.plainOver K C=true) (ht:W.takerIn K C name=some none) (hh:W.hasDictIn K C=true) (hw:PySem.Within mA ns) (hsz:ns.length<=sizeLine) (h:∀h',y_ h' x dx C (fun y=>if y=name then some v else mA y)->Heap.SameBut dx s.heap h'->Q () { s with heap:=h',toks:=s.toks+2 }) :wpAny (model prog w) A (setAttr (.ref x) name v) Q E s:=by obtain⟨od,J,hl⟩:=I.look;refine W.set_plain X J hs (W.osa_open (s:={ s with toks:=s.toks+1 }) (r:=none) X J hp ht fun b=>?_);obtain⟨cd,hc,hd'⟩:=W.any_some hh;have hx:s.heap.get? x=some ⟨.ref C,some dx,.plain,#[]⟩:=I.obj;refine wpAny_bind (wpAny_pure (wpAny_bind (wpAny_bind (wpAny_loadPart hx (wpAny_bind (W.Looks.here (s:={ s with toks:=s.toks+1 }) (W.looks_clsIn X hc) ?_))))));rw[hd'];refine wpAny_pure (a:=some dx) (wpAny_bind (wpAny_pure (wpAny_bind ?_)));refine wpAny_nsSet1 (s:={ s with toks:=s.toks+1 }) I.ns fun h' hn2 hs2=>?_;obtain⟨oD,esD,epD,hoD,hdD,hcD⟩:=hn2.count (PySem.Within.cons name v hw);refine wpAny_bind (wpAny_lookBehind hoD (by rw[hdD];exact pastItsLine_dict (Nat.le_trans hcD (by rw[List.length_cons];omega))) ?_);exact wpAny_pure (h _ ⟨(hs2.2 _ (Ne.symm I.ne)).trans I.obj,hn2,I.ne⟩ hs2)
theorem BO{R:Result->Shared->Prop}{vs:List Value}{kw:List (Str×Value)}(X:K.In s.heap)(hm:W.makesIn K C=true) (hi:W.findIn K (.ref C) "__init__"=some (some (.ref f))) (hf:W.typeIn K (.ref f)=some (.type "function")) (h:codeAny (model prog w) (A.under (.builtin "type.__call__" ⟨.ref C::vs,kw⟩)) (.call (.ref f) ⟨.ref (s.heap.objs.size+1)::vs,kw⟩) (W.InitBack (s.heap.objs.size+1) R) { s with heap:=(s.heap.push W.emptyDict).push (W.instObj C s.heap.objs.size) }) :codeAny (model prog w) A (.call (.ref C) ⟨vs,kw⟩) R s:=by obtain⟨hh,g,d,t,os⟩:=s;exact W.make_core (W.makes_of X hm) (W.looks_findIn X hi) (fun self=>W.bind_fn X self hf) (.inl rfl) h
end
def cG(f:Str)(v:V):List (Str×V)->List (Str×V)
 |[]=>[(f,v)]
 |(g,x)::r=>if g=f then(g,v)::r else(g,x)::cG f v r
theorem qE(f g:Str)(v:V):∀fs:List (Str×V),(cG f v fs).lookup g=if g=f then some v else fs.lookup g
 |[]=>by
  show List.lookup g [(f,v)]=_;by_cases h:g=f
  ·have hb:(g==f)=true:=beq_iff_eq.mpr h;simp only[List.lookup,hb,if_pos h]
  ·have hb:(g==f)=false:=beq_eq_false_iff_ne.mpr h;simp only[List.lookup,hb,if_neg h]
 |(k,x)::r=>by
  have ih:=qE f g v r;rw[show cG f v ((k,x)::r)=(if k=f then(k,v)::r else(k,x)::cG f v r)from rfl];by_cases hk:k=f
  ·rw[if_pos hk];by_cases h:g=k
   ·have hb:(g==k)=true:=beq_iff_eq.mpr h;simp only[List.lookup,hb,if_pos (h.trans hk)]
   ·have hb:(g==k)=false:=beq_eq_false_iff_ne.mpr h;simp only[List.lookup,hb,if_neg (fun e:g=f=>h (e.trans hk.symm))]
  ·rw[if_neg hk];by_cases h:g=k
   ·have hb:(g==k)=true:=beq_iff_eq.mpr h;simp only[List.lookup,hb,if_neg (fun e:g=f=>hk (h.symm.trans e))]
   ·have hb:(g==k)=false:=beq_eq_false_iff_ne.mpr h;simp only[List.lookup,hb];exact ih
theorem pX(f:Str)(v:V):∀fs:List (Str×V),f∈(cG f v fs).map (·.1)/\∀g,g∈fs.map (·.1)->g∈(cG f v fs).map (·.1)
 |[]=>⟨by simp[cG],fun g h=>by simp at h⟩
 |(k,x)::r=>by
  obtain⟨i1,i2⟩:=pX f v r;rw[show cG f v ((k,x)::r)=(if k=f then(k,v)::r else(k,x)::cG f v r)from rfl];by_cases hk:k=f
  ·rw[if_pos hk];subst hk;exact⟨by simp,fun g h=>by simpa using h⟩
  ·rw[if_neg hk];refine⟨?_,fun g h=>?_⟩
   ·rw[List.map_cons];exact List.mem_cons_of_mem _ i1
   ·rw[List.map_cons]at h⊢;rcases List.mem_cons.mp h with e|e
    ·exact List.mem_cons.mpr (.inl e)
    ·exact List.mem_cons_of_mem _ (i2 g e)
theorem qG(f:Str)(v:V):∀fs:List (Str×V),(cG f v fs).length<=fs.length+1
 |[]=>by simp[cG]
 |(k,x)::r=>by
  have ih:=qG f v r;rw[show cG f v ((k,x)::r)=(if k=f then(k,v)::r else(k,x)::cG f v r)from rfl];by_cases hk:k=f
  ·rw[if_pos hk,List.length_cons,List.length_cons];omega
  ·rw[if_neg hk,List.length_cons,List.length_cons];omega
theorem mX.some_of{v:V}{o:Option Value}(r:mX (some v) o):∃u,o=some u/\br v u:=by
 cases o with
 |none=>exact(show False from r).elim
 |some u=>exact⟨u,rfl,r⟩
theorem mX.none_of{o:Option Value}(r:mX none o):o=none:=by
 cases o with
 |none=>rfl
 |some u=>exact(show False from r).elim
theorem AX{v:V}{u:Value}(r:br v u):W.handedIn u=true:=by
 cases v with
 |non=>cases(show u=Value.none from r);rfl
 |bl b=>cases(show u=Value.bool b from r);rfl
 |int i=>obtain⟨t,e⟩:=(show ∃t,u=Value.int i t from r);cases e;rfl
 |str x=>obtain⟨t,e⟩:=(show ∃t,u=Value.str x t from r);cases e;rfl
 |byt b=>obtain⟨t,e⟩:=(show ∃t,u=Value.bytes b t from r);cases e;rfl
 |flt b=>obtain⟨t,e⟩:=(show ∃t,u=Value.float b t from r);cases e;rfl
 |ref a=>cases(show u=Value.ref a from r);rfl
 |ty n=>cases(show u=Value.type n from r);rfl
section
variable{P:Program}{w:World}{H H':Hp}{h h':Heap}{a C dx:Addr}{fs fs':List (Str×V)}
theorem vA(hok:jb P w H h)(e:H a=some (.ins C dx fs)):∃mA,y_ h a dx C mA/\(∀f,mX (fs.lookup f) (mA f))/\PySem.Within mA (fs.map (·.1))/\fs.length<=1000/\H dx=some (.own a):=by
 obtain⟨d,z,ne,ob,mA,n,r,q⟩:=(show cF P w H h a (.ins C dx fs)from hok a _ e)
 exact⟨mA,⟨ob,n,ne⟩,r,q,z,d⟩
end
structure qH(K:W.Frag)(C:Addr):Prop where
 pg:W.plainGet K C Str.empty=true
 hd:W.hasDictIn K C=true
 po:W.plainOver K C=true
 sa:W.findIn K (.ref C) "__setattr__"=some (some (.builtin "object.__setattr__"))
theorem qH.get{K:W.Frag}{C:Addr}(c:qH K C)(f:Str):W.plainGet K C f=true:=c.pg
def bF(K:W.Frag)(C:Addr)(f:Str):Prop:=W.findIn K (.ref C) f=some none
theorem bF.taker{K:W.Frag}{C:Addr}{f:Str}(n:bF K C f):W.takerIn K C f=some none:=by unfold W.takerIn;rw[show W.findIn K (.ref C) f=some none from n];rfl
structure Dr(K:W.Frag)(C:Addr)(m:Str)(f:Addr):Prop where
 at_:W.findIn K (.ref C) m=some (some (.ref f))
 fn:W.isFn K (.ref f)=true
 kp:W.keepIn K (.ref f)=true
section
variable{X:Cx}{pins:List (Addr×Obj)}{σ:St}{H:Hp}{s:Shared}{a C dx:Addr}{fs:List (Str×V)}{f:Str}{v:V}{A:Around}{E:Value->Shared->Prop}
theorem sW{b:Bool}{Q:Value->Shared->Prop}(I:aH X pins σ H s)(e:H a=some (.ins C dx fs))(c:qH X.K C)(n:bF X.K C f)(l:fs.lookup f=some v) (h:∀u s',aH X pins σ H s'->br v u->Q u s'):wpAny (model X.prog X.w) A (getAttr (.ref a) f b) Q E s:=by obtain⟨mA,O,r,_,_,_⟩:=vA I.hok e;obtain⟨u,hu,ru⟩:=mX.some_of (v:=v) (o:=mA f) (by rw[<-l];exact r f);exact Ep I.kIn O (c.get f) c.hd n hu (AX ru) (h u _ (I.tok _) ru)
theorem sX{m:Str}{g:Addr}{pl:Sem Bool}{Q:Value×List Value->Shared->Prop}(I:aH X pins σ H s)(e:H a=some (.ins C dx fs))(c:qH X.K C)(k:Dr X.K C m g)(l:fs.lookup m=none) (h:Q (.ref g,[.ref a]) s):wpAny (model X.prog X.w) A (getMethod (.ref a) m pl) Q E s:=by obtain⟨mA,O,r,_,_,_⟩:=vA I.hok e;have hn:mA m=none:=mX.none_of (by rw[<-l];exact r m);exact Dd I.kIn O (c.get m) k.at_ k.fn hn h
theorem tq{y:V}{u:Value}{Q:Unit->Shared->Prop}(I:aH X pins σ H s)(e:H a=some (.ins C dx fs))(c:qH X.K C)(n:bF X.K C f)(hl:fs.length<1000)(ry:br y u) (h:∀s',aH X pins σ (aI H a (.ins C dx (cG f y fs))) s'->Q () s'):wpAny (model X.prog X.w) A (setAttr (.ref a) f u) Q E s:=by
 obtain⟨mA,O,r,wi,_,ho⟩:=vA I.hok e;have hz:(fs.map (·.1)).length<=sizeLine:=by rw[List.length_map,sizeLine_eq];omega
 refine D0 I.kIn O c.sa c.po n.taker c.hd wi hz fun h' O' sb=>h _ ?_;have hd:∃o,h'.get? dx=some o:=let⟨o,_,_,e',_⟩:=O'.ns;⟨o,e'⟩;refine I.write (x:=a) (e:=dx) (by rw[e];exact True.intro) (.inr ho) (fun b q hb z=>(sb.2 b hb).trans z) hd ?_;refine⟨by rw[ai O.ne];exact ho,?_,O.ne,O'.obj,_,O'.ns,fun g=>?_,fun g hg=>?_⟩
 ·have:=qG f y fs;omega
 ·show mX ((cG f y fs).lookup g) (if g=f then some u else mA g);rw[qE];by_cases q:g=f
  ·rw[if_pos q,if_pos q];exact ry
  ·rw[if_neg q,if_neg q];exact r g
 ·by_cases q:g=f
  ·rw[q];exact(pX f y fs).1
  ·refine(pX f y fs).2 g (wi g fun z=>hg ?_);show(if g=f then some u else mA g)=none;rw[if_neg q];exact z
theorem aH.made(I:aH X pins σ H s):aH X pins σ (aI (aI H s.heap.objs.size (.own (s.heap.objs.size+1))) (s.heap.objs.size+1) (.ins C s.heap.objs.size [])) { s with heap:=(s.heap.push W.emptyDict).push (W.instObj C s.heap.objs.size) }:=by
 have e1:(s.heap.push W.emptyDict).get? s.heap.objs.size=some W.emptyDict:=Heap.get?_push_size s.heap rfl;have e2:((s.heap.push W.emptyDict).push (W.instObj C s.heap.objs.size)).get? (s.heap.objs.size+1)=some (W.instObj C s.heap.objs.size):=by have:=Heap.get?_push_size (s.heap.push W.emptyDict) (o:=W.instObj C s.heap.objs.size) rfl;rwa [Heap.size_push]at this
 have e3:(s.heap.push W.emptyDict).Ns s.heap.objs.size (fun _=>none):=⟨W.emptyDict,#[],_,e1,rfl,(fun e he=>absurd he (by simp)),fun _=>rfl⟩
 have I1:=I.laid (a:=s.heap.objs.size) (o:=.own (s.heap.objs.size+1)) (h':=s.heap.push W.emptyDict) (t':=s.toks) (fun b u q=>Heap.get?_push_of_some _ q) (Nat.le_refl _) ⟨_,e1⟩;refine I1.laid (a:=s.heap.objs.size+1) (o:=.ins C s.heap.objs.size []) (t':=s.toks) (fun b u q=>Heap.get?_push_of_some _ q) (Nat.le_of_eq (Heap.size_push _ _)) ?_;have ne:s.heap.objs.size≠s.heap.objs.size+1:=Nat.ne_of_lt (Nat.lt_succ_self _);refine⟨by rw[ai ne,ah],Nat.zero_le _,ne,e2,fun _=>none,(Heap.Ns1.of_empty e3).at fun o q=>Heap.get?_push_of_some _ q,fun _=>True.intro,fun y hy=>absurd rfl hy⟩
theorem Ee{prog:Program}{w:World}{env:Env}{e:Expr}{f:Str}{pos:Pos}{s:Shared}{Q:Value->Shared->Prop}(hb:attributeBase e f env (eval e env)=eval e env) (h:wpAny (model prog w) A (eval e env) (fun o s₁=>wpAny (model prog w) A (getAttr o f true) Q E s₁) E s):wpAny (model prog w) A (eval (.Attribute e f pos) env) Q E s:=Attribute_any_ h (by rw[arm_eval_Attribute,hb])
end
def dO(K:W.Frag)(ta:TE)(f:Str):TE:=fun σ H Q=>ta σ H fun x H1=>∃a C dx fs v,x=.ref a/\H1 a=some (.ins C dx fs)/\qH K C/\bF K C f/\fs.lookup f=some v/\Q v H1
def wG(K:W.Frag)(ta tv:TE)(f:Str):TS:=fun D σ H=>tv σ H fun y H1=>ta σ H1 fun x H2=>∃a C dx fs,x=.ref a/\H2 a=some (.ins C dx fs)/\qH K C/\bF K C f/\fs.length<1000/\D.nx σ (aI H2 a (.ins C dx (cG f y fs)))
def Hw(X:Cx)(op:Operator)(rd:V->V->Hp->VK->Prop):Prop:=∀(pins:List (Addr×Obj))(s:Shared)(σ:St)(H:Hp)(x y:V)(u v:Value)(Q:VK),aH X pins σ H s->br x u->br y v->rd x y H Q->wpAny (model X.prog X.w) X.A (inplaceOp op u v) (EP X pins σ Q) X.xe s
def Af(K:W.Frag)(ta tv:TE)(rd:V->V->Hp->VK->Prop)(f:Str):TS:=fun D σ H=>ta σ H fun x H1=>∃a C dx fs v,x=.ref a/\H1 a=some (.ins C dx fs)/\qH K C/\bF K C f/\fs.lookup f=some v/\tv σ H1 fun y H2=>rd v y H2 fun z H3=>∃dx' fs',H3 a=some (.ins C dx' fs')/\fs'.length<1000/\D.nx σ (aI H3 a (.ins C dx' (cG f z fs')))
section
variable{X:Cx}{o e value:Expr}{f:Str}{pos pos' tpos:Pos}{ta tv:TE}
theorem fO(he:PE X e ta)(hb:attributeBase e f X.env (eval e X.env)=eval e X.env):PE X (.Attribute e f pos) (dO X.K ta f):=by intro pins s σ H Q I h;refine Ee hb (cA (he pins s σ H _ I h) fun u s1⟨x,H1,I1,rx,a,C,dx,fs,v,ex,ea,c,n,l,q⟩=>?_);subst ex;obtain rfl:u=Value.ref a:=rx;exact sW I1 ea c n l fun u' s2 I2 ru=>⟨v,H1,I2,ru,q⟩
theorem cE(ha:PE X o ta)(hv:PE X value tv)(hs:swapsWith value (some (.Attribute o f pos')) pos.line X.env=pure false):PS X (.Assign [.Attribute o f pos'] value pos) (wG X.K ta tv f):=by intro pins s σ H D I h;refine plainObj_wpAny_Assign_Attribute (cA (hv pins s σ H _ I h) fun u s1⟨y,H1,I1,ry,q⟩=>cA (ha pins s1 σ H1 _ I1 q) fun ov s2⟨x,H2,I2,rx,a,C,dx,fs,ex,ea,c,n,l,q2⟩=>?_) hs;subst ex;obtain rfl:ov=Value.ref a:=rx;exact tq I2 ea c n l ry fun s3 I3=>⟨σ,_,I3,q2⟩
theorem lU{op:Operator}{rd:V->V->Hp->VK->Prop}(ha:PE X o ta)(hv:PE X value tv)(hop:Hw X op rd):PS X (.AugAssign (.Attribute o f tpos) op value pos) (Af X.K ta tv rd f):=by intro pins s σ H D I h;refine wpAny_AugAssign_AttributeAny (cA (ha pins s σ H _ I h) fun ov s1⟨x,H1,I1,rx,a,C,dx,fs,v,ex,ea,c,n,l,q⟩=>?_);subst ex;obtain rfl:ov=Value.ref a:=rx;refine sW I1 ea c n l fun u s2 I2 ru=>cA (hv pins s2 σ H1 _ I2 q) fun w3 s3⟨y,H2,I3,ry,q3⟩=>cA (hop pins s3 σ H2 v y u w3 _ I3 ru ry q3) fun w4 s4⟨z,H3,I4,rz,dx',fs',ea',l',q4⟩=>?_;exact tq I4 ea' c n l' rz fun s5 I5=>⟨σ,_,I5,q4⟩
end
end L2
namespace L2
open PySem PySem.Spec PyProof.Rows
structure dZ(k:Nat)(A:Around):Prop where
 hd:A.handled=none
 dp:A.depth+3*k+5<recursionLimit
 un:A.units+16*k+200<cLine
theorem dZ.mono{j k:Nat}{A:Around}(r:dZ k A)(h:j<=k):dZ j A:=⟨r.hd,by have:=r.dp;omega,by have:=r.un;omega⟩
theorem dZ.deeper{k:Nat}{A:Around}(r:dZ (k+1) A)(env:Env):dZ k (A.deeper env):=⟨r.hd,by have:=r.dp;show A.depth+1+3*k+5<_;omega,by have:=r.un;show A.units+3+16*k+200<_;omega⟩
theorem yM {A:Around} {C:Addr} {us:List Value} {kw:List (Str×Value)}:(A.under (.builtin "type.__call__" ⟨.ref C::us,kw⟩)).depth=A.depth+1:=by first|rfl|simp[Around.under,Code.weight,Code.isCreation,Code.isGuard,Code.isCaller,Code.frames,Code.isFrame,guardIds]
theorem zb {A:Around} {C:Addr} {us:List Value} {kw:List (Str×Value)}:(A.under (.builtin "type.__call__" ⟨.ref C::us,kw⟩)).units=A.units+1:=by first|rfl|simp[Around.under,Code.cUnits,Code.frames,Code.isFrame]
theorem dZ.make {k:Nat} {A:Around} (r:dZ (k+1) A) (C:Addr) (us:List Value) (kw:List (Str×Value)):dZ k (A.under (.builtin "type.__call__" ⟨.ref C::us,kw⟩)):=⟨r.hd,by have:=r.dp;rw[yM];omega,by have:=r.un;rw[zb];omega⟩
theorem dZ.depth{k:Nat}{A:Around}(r:dZ k A):A.depth<recursionLimit:=by have:=r.dp;omega
theorem dZ.units{k:Nat}{A:Around}(r:dZ k A):A.units+64<cLine:=by have:=r.un;omega
def ck:TA:=fun _ H Q=>Q [] H
def a_(ta:TE)(tr:TA):TA:=fun σ H Q=>ta σ H fun x H1=>tr σ H1 fun xs H2=>Q (x::xs) H2
section
variable{X:Cx}{e:Expr}{es:List Expr}{te:TE}{t:TA}{pos:Pos}
theorem aj:PA X [] ck:=fun _ _ _ _ H Q I h=>Calls.spliced_nil ⟨[],H,I,.nil,h⟩
theorem aa(ha:PE X e te)(hr:PA X es t)(hs:starEach (e::es) X.env=(false,eval e X.env)::starEach es X.env:=by rfl):PA X (e::es) (a_ te t):=by intro pos pins s σ H Q I h;rw[hs];show wpAny _ _ (spliced ((false,eval e X.env)::backTo pos (starEach es X.env))) _ _ s;refine Calls.spliced_cons (cA (ha pins s σ H _ I h) fun u s1⟨x,H1,I1,r1,q1⟩=>?_);exact cA (hr pos pins s1 σ H1 _ I1 q1) fun us s2⟨xs,H2,I2,r2,q2⟩=>⟨x::xs,H2,I2,.cons r1 r2,q2⟩
def C9(t:TA):TE:=fun σ H Q=>t σ H fun xs H1=>xs.length<=sizeLine/\∀p,H1 p=none->Q (.ref p) (aI H1 p (.tup xs))
def nP(t:TA):TE:=fun σ H Q=>t σ H fun xs H1=>xs.length<=sizeLine/\∀p,H1 p=none->Q (.ref p) (aI H1 p (.lst xs))
theorem r8{x1}(h:PA X es t):PE X (.Tuple es x1 pos) (C9 t):=by intro pins s σ H Q I hq;refine wpAny_Tuple_spliced (cA (h pos pins s σ H _ I hq) fun us s1⟨xs,H1,I1,r,z,q⟩=>⟨by rw[<-r.length];exact z,?_⟩);have hf:H1 s1.heap.objs.size=none:=I1.hok.fresh (Nat.le_refl _);refine⟨.ref s1.heap.objs.size,aI H1 s1.heap.objs.size (.tup xs),I1.laid (t':=s1.toks) (fun b u e=>Heap.get?_push_of_some _ e) (Nat.le_refl _) ?_,rfl,q _ hf⟩;exact⟨z,us,r,⟨_,Heap.get?_push_size _ rfl,rfl,_,rfl⟩⟩
theorem bb(h:PA X es t):PE X (.List es pos) (nP t):=by intro pins s σ H Q I hq;refine wpAny_List_spliced (cA (h pos pins s σ H _ I hq) fun us s1⟨xs,H1,I1,r,z,q⟩=>⟨by rw[<-r.length];exact z,?_⟩);have hf:H1 s1.heap.objs.size=none:=I1.hok.fresh (Nat.le_refl _);refine⟨.ref s1.heap.objs.size,aI H1 s1.heap.objs.size (.lst xs),I1.laid (t':=s1.toks) (fun b u e=>Heap.get?_push_of_some _ e) (Nat.le_refl _) ?_,rfl,q _ hf⟩;exact⟨z,us,0,r,Heap.get?_push_size _ rfl⟩
end
abbrev Sp:=List V->Hp->VK->XK->Prop
abbrev DB:=List Env->Hp->Shared->XK->Value->Shared->Prop
structure yI(P:Program)(w:World)(K:W.Frag)(mg:Str->Option Value)(base:Heap)(A:Around)(outer:List Env)(s:Shared)(H:Hp):Prop where
 frames:A.frames=some outer
 mod:Mod K mg base
 bs:∀b o,base.get? b=some o->s.heap.get? b=some o/\H b=none
 bsz:base.objs.size<=s.heap.objs.size
 funs:s.heap.FunFrames base outer
 frf:∀b∈gW outer,H b=none
 hok:jb P w H s.heap
 bare:AllBare s.gens
def CE(outer:List Env)(P:Program)(w:World)(H:Hp)(s:Shared)(Q:VK)(u:Value)(s':Shared):Prop:=∃v H',s'.os=s.os/\AllBare s'.gens/\Un (gW outer) [] H H' s.heap s'.heap/\jb P w H' s'.heap/\br v u/\Q v H'
def CR(CX:DB)(outer:List Env)(P:Program)(w:World)(H:Hp)(s:Shared)(Q:VK)(E:XK)(r:Result)(s':Shared):Prop:=match r with
 |.ok (.ret u)=>CE outer P w H s Q u s'
 |.ok _=>False
 |.error e=>CX outer H s E e s'
structure bj(P:Program)(w:World)(K:W.Frag)(mg:Str->Option Value)(base:Heap)(CX:DB)(k:Nat)(f:Addr)(fd:FuncData)(ps:List Str)(sp:Sp):Prop where
 len:∀vs H Q E,sp vs H Q E->vs.length=ps.length
 run:∀(A:Around)(outer:List Env)(s:Shared)(H:Hp)(args:Args)(us:List Value)(vs:List V)(Q:VK)(E:XK),dZ k A->yI P w K mg base A outer s H->BindsTo s fd args (ps.zip us)->aQ vs us->sp vs H Q E->
  codeAny (model P w) A (.call (.ref f) args) (CR CX outer P w H s Q E) s
theorem yI.make{P:Program}{w:World}{K:W.Frag}{mg:Str->Option Value}{base:Heap}{A:Around}{outer:List Env}{s:Shared}{H:Hp}(e:yI P w K mg base A outer s H)(C:Addr)(us:List Value)(kw:List (Str×Value)):yI P w K mg base (A.under (.builtin "type.__call__" ⟨.ref C::us,kw⟩)) outer s H:=⟨by first|exact e.frames|(simpa[Around.under,Code.envs,Code.isFrame,pushEnvs]using e.frames),e.mod,e.bs,e.bsz,e.funs,e.frf,e.hok,e.bare⟩
section
variable{X:Cx}{pins:List (Addr×Obj)}{σ:St}{H:Hp}{s s':Shared}
theorem aH.env0(I:aH X pins σ H s):yI X.prog X.w X.K X.mg X.base X.A X.stack s H:=⟨I.ok.frames,I.ok.mod,I.bs,Nat.le_trans I.ok.bsz I.sz,I.stack,I.stkFree,I.hok,I.bare⟩
theorem aH.after{Q:VK}{u:Value}(I:aH X pins σ H s)(h:CE X.stack X.prog X.w H s Q u s'):EP X pins σ Q u s':=by obtain⟨v,H',os,bare,un,hok,r,q⟩:=h;obtain⟨hh,g,d,t,os'⟩:=s';obtain rfl:os'=s.os:=os;exact⟨v,H',I.call (h':=hh) (g':=g) (d':=d) (t':=t) (ch:=[]) un hok bare (fun b z=>absurd z (by simp)),r,q⟩
end
def fY(sp:Sp)(dvs:List V)(E:XK)(t:TA):TE:=fun σ H Q=>t σ H fun vs H1=>sp (vs++dvs) H1 Q E
def fx(C:Addr)(m:Str)(sp:Sp)(dvs:List V)(E:XK)(ta:TE)(t:TA):TE:=fun σ H Q=>ta σ H fun x H1=>∃a dx fs,x=.ref a/\H1 a=some (.ins C dx fs)/\fs.lookup m=none/\t σ H1 fun vs H2=>sp (x::(vs++dvs)) H2 Q E
def tw(C:Addr)(sp:Sp)(dvs:List V)(E:XK)(t:TA):TE:=fun σ H Q=>t σ H fun vs H1=>∀x dx,H1 x=none->H1 dx=none->dx≠x->sp (.ref x::(vs++dvs)) (aI (aI H1 dx (.own x)) x (.ins C dx [])) (fun v H2=>v=.non/\Q (.ref x) H2) E
def jr(K:W.Frag)(fd:FuncData)(ps:List Str)(ds:List Value):Prop:=∀(s:Shared)(us:List Value),K.In s.heap->(us++ds).length=ps.length->BindsTo s fd ⟨us,[]⟩ (ps.zip (us++ds))
theorem jr.all{K:W.Frag}{fd:FuncData}{ps:List Str}(h:∀us:List Value,us.length=ps.length->bindArgs fd ⟨us,[]⟩=pure (ps.zip us)):jr K fd ps []:=fun s us _ hl=>by rw[List.append_nil]at hl⊢;exact .of_eq (h us hl)
def e_(CX:DB)(X:Cx)(E:XK):Prop:=∀(pins:List (Addr×Obj))(σ:St)(H:Hp)(s:Shared)(e:Value)(s':Shared),aH X pins σ H s->CX X.stack H s E e s'->X.xe e s'
section
variable{X:Cx}{CX:DB}{k:Nat}{f C:Addr}{fd:FuncData}{ps:List Str}{sp:Sp}{dvs:List V}{ds:List Value}{E:XK}{x m:Str}{p pos apos:Pos}{e o:Expr}{es:List Expr}{ta:TE}{t:TA}
theorem zK{pins:List (Addr×Obj)}{σ:St}{H:Hp}{s:Shared}{Q:VK}{us:List Value}{vs:List V}(F:bj X.prog X.w X.K X.mg X.base CX k f fd ps sp)(hr:dZ k X.A)(hb:jr X.K fd ps ds)(hd:aQ dvs ds)(hx:e_ CX X E) (I:aH X pins σ H s) (r:aQ vs us) (h:sp (vs++dvs) H Q E):wpAny (model X.prog X.w) X.A (call (.ref f) us) (EP X pins σ Q) X.xe s:=by
 have r2:aQ (vs++dvs) (us++ds):=r.append hd;have hl:(us++ds).length=ps.length:=by rw[<-r2.length];exact F.len _ _ _ _ h
 refine wpAny_call (codeAny_mono (F.run X.A X.stack s H ⟨us,[]⟩ (us++ds) (vs++dvs) Q E hr I.env0 (hb s us I.kIn hl) r2 h) fun r s' hq=>?_);cases r with
 |error e=>exact hx pins σ H s e s' I hq
 |ok fl=>
  cases fl with
  |ret u=>exact I.after hq
  |next=>exact False.elim hq
  |brk=>exact False.elim hq
  |cont=>exact False.elim hq
theorem DJ(F:bj X.prog X.w X.K X.mg X.base CX k f fd ps sp)(hr:dZ k X.A)(hg:Gl X x)(hm:X.mg x=some (.ref f))(hk:W.keepIn X.K (.ref f)=true)(hb:jr X.K fd ps ds)(hd:aQ dvs ds)(hx:e_ CX X E) (ha:PA X (e::es) t) (hdb:(x==("__debug__":Str))=false:=by decide) (he:starEach (e::es) X.env=(false,eval e X.env)::starEach es X.env:=by rfl) (hpl:(backTo pos (starEach es X.env)).any (·.1)=false:=by rfl) :PE X (.Call (.Name x p) (e::es) [] pos) (fY sp dvs E t):=by intro pins s σ H Q I h;refine wpAny_Call_Name_kw (jB I hg hm ?_ hdb);refine W.callWith_K (h₀:=X.base) I.ok.mod.kin hk (cA (ha pos pins s σ H _ I h) fun us s1⟨vs,H1,I1,r,q⟩=>⟨I1.kIn,?_⟩) he hpl;exact zK F hr hb hd hx I1 r q
theorem DV{pl:Sem Bool}(he:PE X o ta)(c:qH X.K C)(hm:Dr X.K C m f)(F:bj X.prog X.w X.K X.mg X.base CX k f fd ps sp)(hr:dZ k X.A)(hb:jr X.K fd ps ds)(hd:aQ dvs ds)(hx:e_ CX X E)(ha:PA X (e::es) t) (hst:starEach (e::es) X.env=(false,eval e X.env)::starEach es X.env:=by rfl) (hpl:(backTo pos (starEach es X.env)).any (·.1)=false:=by rfl) (ht:eval (.Call (.Attribute o m apos) (e::es) [] pos) X.env=(do
   let ov <-eval o X.env;standAt apos.atName;let(f,first) <-holding [ov] (getMethod ov m pl);callWith pos f first (backTo pos (starEach (e::es) X.env)) (backToKw pos (keywordEach [] X.env))):=by rfl) :
  PE X (.Call (.Attribute o m apos) (e::es) [] pos) (fx C m sp dvs E ta t):=by
 intro pins s σ H Q I h;refine W.methodCall_KW (pl:=pl) (cA (he pins s σ H _ I h) fun u s1⟨x,H1,I1,rx,a,dx,fs,ex,ea,l,q⟩=>?_) ht;subst ex;obtain rfl:u=Value.ref a:=rx;refine sX I1 ea c hm l ?_;refine W.callWith_K (first:=[.ref a]) (h₀:=X.base) I.ok.mod.kin hm.kp (cA (ha pos pins s1 σ H1 _ I1 q) fun us s2⟨vs,H2,I2,r,q2⟩=>⟨I2.kIn,?_⟩) hst hpl;exact zK (us:=.ref a::us) (vs:=.ref a::vs) F hr hb hd hx I2 (.cons rfl r) q2
theorem B9{pl:Sem Bool}(he:PE X o ta)(c:qH X.K C)(hm:Dr X.K C m f)(F:bj X.prog X.w X.K X.mg X.base CX k f fd ps sp)(hr:dZ k X.A)(hb:jr X.K fd ps ds)(hd:aQ dvs ds)(hx:e_ CX X E) (ht:eval (.Call (.Attribute o m apos) [] [] pos) X.env=(do
   let ov <-eval o X.env;standAt apos.atName;let(f,first) <-holding [ov] (getMethod ov m pl);callWith pos f first (backTo pos (starEach [] X.env)) (backToKw pos (keywordEach [] X.env))):=by rfl) :
  PE X (.Call (.Attribute o m apos) [] [] pos) (fx C m sp dvs E ta ck):=by
 intro pins s σ H Q I h;refine W.methodCall_KW (pl:=pl) (cA (he pins s σ H _ I h) fun u s1⟨x,H1,I1,rx,a,dx,fs,ex,ea,l,q⟩=>?_) ht;subst ex;obtain rfl:u=Value.ref a:=rx;refine sX I1 ea c hm l ?_;exact W.callWith_K0 (first:=[.ref a]) I1.kIn hm.kp (zK (us:=[.ref a]) (vs:=[.ref a]) F hr hb hd hx I1 (.cons rfl .nil) q)
structure Mk(K:W.Frag)(C f:Addr):Prop where
 makes:W.makesIn K C=true
 init:W.findIn K (.ref C) "__init__"=some (some (.ref f))
 fn:W.isFn K (.ref f)=true
 kp:W.keepIn K (.ref C)=true
theorem yj{pins:List (Addr×Obj)}{σ:St}{H:Hp}{s:Shared}{Q:VK}{us:List Value}{vs:List V}(M:Mk X.K C f)(F:bj X.prog X.w X.K X.mg X.base CX k f fd ps sp)(hr:dZ (k+1) X.A)(hb:jr X.K fd ps ds)(hd:aQ dvs ds) (hx:e_ CX X E) (I:aH X pins σ H s) (r:aQ vs us) (h:∀x dx,H x=none->H dx=none->dx≠x->sp (.ref x::(vs++dvs)) (aI (aI H dx (.own x)) x (.ins C dx [])) (fun v H2=>v=.non/\Q (.ref x) H2) E) :wpAny (model X.prog X.w) X.A (call (.ref C) us) (EP X pins σ Q) X.xe s:=by
 have hq:=h (s.heap.objs.size+1) s.heap.objs.size (I.hok.fresh (Nat.le_succ _)) (I.hok.fresh (Nat.le_refl _)) (Nat.ne_of_lt (Nat.lt_succ_self _));have I2:=aH.made (C:=C) I;have r2:aQ (V.ref (s.heap.objs.size+1)::(vs++dvs)) (Value.ref (s.heap.objs.size+1)::(us++ds)):=.cons rfl (r.append hd);have hl:(Value.ref (s.heap.objs.size+1)::us++ds).length=ps.length:=by have e:=r2.length;rw[F.len _ _ _ _ hq]at e;exact e.symm
 refine wpAny_call (BO (f:=f) I.kIn M.makes M.init (beq_iff_eq.mp M.fn) (codeAny_mono (F.run _ X.stack _ _ ⟨Value.ref (s.heap.objs.size+1)::us,[]⟩ (Value.ref (s.heap.objs.size+1)::(us++ds)) _ _ E (hr.make C us []) (I2.env0.make C us []) (hb _ (Value.ref (s.heap.objs.size+1)::us) I2.kIn hl) r2 hq) fun r s' hq'=>?_));cases r with
 |error e=>exact hx pins σ _ _ e s' I2 hq'
 |ok fl=>
  cases fl with
  |ret u=>obtain⟨v,H',I3,rv,ev,q3⟩:=I2.after hq';subst ev;exact⟨rv,⟨V.ref (s.heap.objs.size+1),H',I3,rfl,q3⟩⟩
  |next=>exact False.elim hq'
  |brk=>exact False.elim hq'
  |cont=>exact False.elim hq'
theorem D4(M:Mk X.K C f)(F:bj X.prog X.w X.K X.mg X.base CX k f fd ps sp)(hr:dZ (k+1) X.A)(hg:Gl X x)(hm:X.mg x=some (.ref C))(hb:jr X.K fd ps ds)(hd:aQ dvs ds)(hx:e_ CX X E) (ha:PA X (e::es) t) (hdb:(x==("__debug__":Str))=false:=by decide) (he:starEach (e::es) X.env=(false,eval e X.env)::starEach es X.env:=by rfl) (hpl:(backTo pos (starEach es X.env)).any (·.1)=false:=by rfl) :PE X (.Call (.Name x p) (e::es) [] pos) (tw C sp dvs E t):=by intro pins s σ H Q I h;refine wpAny_Call_Name_kw (jB I hg hm ?_ hdb);refine W.callWith_K (h₀:=X.base) I.ok.mod.kin M.kp (cA (ha pos pins s σ H _ I h) fun us s1⟨vs,H1,I1,r,q⟩=>⟨I1.kIn,?_⟩) he hpl;exact yj M F hr hb hd hx I1 r q
theorem B_(M:Mk X.K C f)(F:bj X.prog X.w X.K X.mg X.base CX k f fd ps sp)(hr:dZ (k+1) X.A)(hg:Gl X x)(hm:X.mg x=some (.ref C))(hb:jr X.K fd ps ds)(hd:aQ dvs ds)(hx:e_ CX X E) (hdb:(x==("__debug__":Str))=false:=by decide):PE X (.Call (.Name x p) [] [] pos) (tw C sp dvs E ck):=by intro pins s σ H Q I h;refine wpAny_Call_Name_kw (jB I hg hm ?_ hdb);exact W.callWith_K0 I.kIn M.kp (yj (us:=[]) M F hr hb hd hx I .nil h)
end
structure aE(N P:List Str)(sc:Scope):Prop where
 kind:sc.kind=.function
 co:sc.isCoroutine=false
 gen:sc.isGenerator=false
 nd:N.Nodup
 pre:N.take P.length=P
 par:∀x∈P,sc.names.lookup x=some .local\/sc.names.lookup x=some .cell
 nofree:∀y∈sc.names,y.2≠.free
theorem uA{kindOf:Str->Option NameKind}{x:Str}:∀{binds:List (Str×Value)}{m:Str->Option Value},(∀v,(x,v)∉binds)->bindL kindOf binds m x=m x
 |[],_,_=>rfl
 |(n,v)::r,m,h=>by
  unfold bindL;rw[uA fun w hw=>h w (List.mem_cons_of_mem _ hw)];split
  ·have:x≠n:=by rintro rfl;exact h v List.mem_cons_self
   simp[this]
  ·rfl
theorem ud{kindOf:Str->Option NameKind}{x:Str}:∀{binds:List (Str×Value)}{m:Str->Option Value},(∀v,(x,v)∉binds)->bindC kindOf binds m x=m x
 |[],_,_=>rfl
 |(n,v)::r,m,h=>by
  unfold bindC;rw[ud fun w hw=>h w (List.mem_cons_of_mem _ hw)];split
  ·rfl
  ·have:x≠n:=by rintro rfl;exact h v List.mem_cons_self
   simp[this]
theorem uv{kindOf:Str->Option NameKind}{x:Str}{v:Value}:∀{P:List Str}{vs:List Value}{i:Nat}{m:Str->Option Value},P.Nodup->P[i]?=some x->vs[i]?=some v->kindOf x=some .local->bindL kindOf (P.zip vs) m x=some v
 |[],_,_,_,_,h,_,_=>by simp at h
 |_::_,[],_,_,_,_,h,_=>by simp at h
 |p::P,w::vs,0,m,nd,h1,h2,hk=>by simp at h1 h2;subst h1;subst h2;show bindL kindOf ((p,w)::P.zip vs) m p=_;unfold bindL;rw[uA fun v hv=>(List.nodup_cons.mp nd).1 (List.of_mem_zip hv).1,if_pos hk];simp
 |p::P,w::vs,i+1,m,nd,h1,h2,hk=>by show bindL kindOf ((p,w)::P.zip vs) m x=_;unfold bindL;exact uv (i:=i) (List.nodup_cons.mp nd).2 (by simpa using h1) (by simpa using h2) hk
theorem ue{kindOf:Str->Option NameKind}{x:Str}{v:Value}:∀{P:List Str}{vs:List Value}{i:Nat}{m:Str->Option Value},P.Nodup->P[i]?=some x->vs[i]?=some v->kindOf x≠some .local->bindC kindOf (P.zip vs) m x=some v
 |[],_,_,_,_,h,_,_=>by simp at h
 |_::_,[],_,_,_,_,h,_=>by simp at h
 |p::P,w::vs,0,m,nd,h1,h2,hk=>by simp at h1 h2;subst h1;subst h2;show bindC kindOf ((p,w)::P.zip vs) m p=_;unfold bindC;rw[ud fun v hv=>(List.nodup_cons.mp nd).1 (List.of_mem_zip hv).1,if_neg hk];simp
 |p::P,w::vs,i+1,m,nd,h1,h2,hk=>by show bindC kindOf ((p,w)::P.zip vs) m x=_;unfold bindC;exact ue (i:=i) (List.nodup_cons.mp nd).2 (by simpa using h1) (by simpa using h2) hk
def start(N:List Str)(vs:List V):St:=vs.map some++List.replicate (N.length-vs.length) none
def wV(CX:DB)(P:Program)(w:World)(K:W.Frag)(mg:Str->Option Value)(base:Heap)(N:List Str)(qual:Str)(scope:Scope)(f:Addr)(cd:Value)(A:Around)(outer:List Env)(s:Shared)(H:Hp)(E:XK):Cx where
 prog:=P;w:=w;K:=K;mg:=mg;base:=base;A:=A.deeper (envOfC qual scope s.heap.objs.size f cd);N:=N;s_0:=s;H_0:=H;env:=envOfC qual scope s.heap.objs.size f cd;outer:=outer;stack:=envOfC qual scope s.heap.objs.size f cd::outer;ex:=[]
 calm:=true;fn:=fun _=>true;pn:=[]
 xe:=fun e s'=>wpAny (model P w) (A.deeper (envOfC qual scope s.heap.objs.size f cd)) (leaving (envOfC qual scope s.heap.objs.size f cd) e) (fun _ s''=>CX outer H s E e s'') (fun e' s''=>CX outer H s E e' s'') s'
theorem yh{sc:Scope}{n:Nat}{x:Str}(h:sc.names.lookup x=some .cell):∃c,(cellsFrom n sc.names []).lookup x=some c:=by have q:=W.cellsFrom_some sc.names n [] (.inl h);exact Option.isSome_iff_exists.mp q
theorem Bu{CX:DB}{P:Program}{w:World}{K:W.Frag}{mg:Str->Option Value}{base:Heap}{N ps:List Str}{qual:Str}{scope:Scope}{f:Addr}{cd:Value}{A:Around}{outer:List Env}{s s1:Shared}{H:Hp}{E:XK}{us:List Value}{vs:List V} (S:aE N ps scope) (hd:A.handled=none) (e0:yI P w K mg base A outer s H) (hl:vs.length=ps.length) (r:aQ vs us) (x:InCallC s s.heap.objs.size (bindL (envOfC qual scope s.heap.objs.size f cd).kindOf (ps.zip us) fun _=>none) (cellsFrom (s.heap.objs.size+1) scope.names []) (bindC (envOfC qual scope s.heap.objs.size f cd).kindOf (ps.zip us) fun _=>none) s1) :aH (wV CX P w K mg base N qual scope f cd A outer s H E) [] (start N vs) H s1:=by
 have hpl:ps.length<=N.length:=by have:=congrArg List.length S.pre;rw[List.length_take]at this;omega
 obtain⟨h1,tk,rfl,hk⟩:=x.done;have noA:∀b:Addr,b∉(wV CX P w K mg base N qual scope f cd A outer s H E).ex:=fun b z=>absurd (show b∈([]:List Addr)from z) (by simp);refine⟨⟨e0.mod,S.kind,rfl,rfl,Nat.le_refl _,fun y z c h1 h2=>?_,fun y hy=>?_,fun y c _ h=>?_,fun _=>hd,Around.frames_deeper e0.frames,.inr ⟨rfl,rfl⟩,fun b z=>absurd z (noA b),e0.bs,e0.bsz,fun b _ _=>noA b,fun b z=>absurd z (noA b),e0.funs,e0.frf⟩,rfl,e0.bare,Un.kept hk,⟨_,x.toInCall.ns,fun i y v h1 h2 h3=>?_⟩,fun y c h=>⟨_,x.cell y c h⟩,e0.hok.fresh (Nat.le_refl _),fun y c h=>?_,fun p hp=>absurd (show p∈([]:List (Addr×Obj))from hp) (by simp),e0.hok.kept hk,?_⟩
 ·exact name_of_addr x.apart (PySem.mem_of_lookup h1) (PySem.mem_of_lookup h2)
 ·have hy:scope.names.lookup y=some .cell\/scope.names.lookup y=some .free:=hy;rcases hy with hy|hy
  ·exact yh hy
  ·exact absurd rfl (S.nofree _ (PySem.mem_of_lookup hy))
 ·exact Nat.le_of_lt (x.above y c (PySem.mem_of_lookup h))
 ·have hi:i<vs.length:=by
   unfold start at h2;by_cases hi:i<vs.length
   ·exact hi
   ·rw[List.getElem?_append_right (by simpa using hi)]at h2;rw[List.getElem?_replicate]at h2;split at h2<;>cases h2
  have ha:vs[i]?=some v:=by
   unfold start at h2;rw[List.getElem?_append_left (by simpa using hi),List.getElem?_map]at h2;cases e:vs[i]? with
   |none=>rw[e]at h2;cases h2
   |some a=>rw[e]at h2;cases h2;rfl
  obtain⟨u,hu,rv⟩:=r.get ha;have hp:ps[i]?=some y:=by rw[<-S.pre,List.getElem?_take_of_lt (by omega)];exact h1
  have ndP:ps.Nodup:=by rw[<-S.pre];exact S.nd.sublist (List.take_sublist _ _)
  refine⟨u,rv,?_⟩;rcases S.par y (List.mem_of_getElem? hp)with k|k
  ·exact .inl ⟨k,uv ndP hp hu k⟩
  ·obtain⟨c,e⟩:=yh (n:=s.heap.objs.size+1) k;refine .inr ⟨.inl k,c,e,?_⟩;have q:=x.cell y c e;rw[ue ndP hp hu (by show scope.names.lookup y≠_;rw[k];decide)]at q;exact q
 ·exact e0.hok.fresh (Nat.le_of_lt (x.above y c (PySem.mem_of_lookup h)))
 ·unfold start;show _=N.length;rw[List.length_append,List.length_map,List.length_replicate];omega
theorem EG{CX:DB}{P:Program}{w:World}{K:W.Frag}{mg:Str->Option Value}{base:Heap}{k:Nat}{f:Addr}{name qual:Str}{params:Arguments}{body:List Stmt}{scope:Scope}{dV kV doc pm cdv ct oc:Value}{an od:Option Addr} {osl:Array (Option Value)} {N ps:List Str} {sp:Sp} (lk:K.lookup f=some ⟨oc,od,.func (W.fnOf name qual params body scope dV kV doc pm an cdv ct),osl⟩) (hcd:W.codeIn K cdv qual=true) (S:aE N ps scope) (len:∀vs H Q E,sp vs H Q E->vs.length=ps.length) (hbody:∀(A:Around)(outer:List Env)(s:Shared)(H:Hp)(vs:List V)(Q:VK)(E:XK),dZ k (A.deeper (envOfC qual scope s.heap.objs.size f cdv))->sp vs H Q E->∃t,zg (wV CX P w K mg base N qual scope f cdv A outer s H E) body t/\t { nx:=fun _ H'=>Q .non H',rt:=Q } (start N vs) H) :bj P w K mg base CX (k+1) f (W.fnOf name qual params body scope dV kV doc pm an cdv ct) ps sp:=by
 refine⟨len,fun A outer s H args us vs Q E hr e0 hb r hsp=>?_⟩;have hl:=len _ _ _ _ hsp;have KX:K.In s.heap:=e0.mod.kin.keeps fun b o e=>(e0.bs b o e).1;have lim:s.heap.NoLimit:=e0.mod.nolimit.keeps fun b o e=>(e0.bs b o e).1
 have hkind:∀y∈ps.zip us,scope.names.lookup y.1=some .local\/(scope.names.lookup y.1=some .cell/\((cellsFrom (s.heap.objs.size+1) scope.names []).lookup y.1).isSome=true):=fun⟨n,v⟩hy=>by
  rcases S.par n (List.of_mem_zip hy).1 with q|q
  ·exact .inl q
  ·exact .inr ⟨q,W.cellsFrom_some _ _ _ (.inl q)⟩
 refine codeAny_call_function hr.depth (KX _ _ lk) rfl S.co S.gen rfl (W.codeRec_of KX hcd) (hb _ _ _ _ ?_);refine wpAny_newFunctionEnv_cells S.kind hkind fun env he s1 x=>?_;subst he;refine⟨lim.keeps x.toInCall.keep,codeAny_func ?_⟩;obtain⟨t,ht,hq⟩:=hbody A outer s H vs Q E (hr.deeper _) hsp;have I:aH (wV CX P w K mg base N qual scope f cdv A outer s H E) [] (start N vs) H s1:=Bu S hr.hd e0 hl r x;refine wpAny_mono (ht [] s1 (start N vs) H _ I hq) (fun fl s' hs=>?_) fun e s' hs=>hs;have fin:∀{σ':St}{H':Hp}{v:V}{u:Value},aH (wV CX P w K mg base N qual scope f cdv A outer s H E) [] σ' H' s'->br v u->Q v H'->CE outer P w H s Q u s':=fun{σ' H' v u}J rv q=>⟨v,H',J.os,J.bare,J.base,J.hok,rv,q⟩
 cases fl with
 |ret u=>obtain⟨v,σ',H',J,rv,q⟩:=hs;exact fin J rv q
 |next=>obtain⟨σ',H',J,q⟩:=hs;exact fin (v:=V.non) (u:=Value.none) J rfl q
 |brk=>obtain⟨_,_,_,q⟩:=hs;exact False.elim q
 |cont=>obtain⟨_,_,_,q⟩:=hs;exact False.elim q
end L2
namespace L2
open PySem PySem.Spec PyProof.Rows
section
variable{X:Cx}{x:Str}{p pos:Pos}{e:Expr}{es:List Expr}{t:TA}{id T:String}{r:List V->Hp->VK->Prop}
def Ab(r:List V->Hp->VK->Prop)(t:TA):TE:=fun σ H Q=>t σ H fun vs H1=>r vs H1 Q
theorem aJ (hc:m7 X (.builtin id) r) (hg:Gl X x) (hm:X.mg x=none) (hv:bootBuiltins x=some (.builtin id)) (ha:PA X (e::es) t) (hn:x≠"__name__":=by decide) (hdb:(x==("__debug__":Str))=false:=by decide) (he:starEach (e::es) X.env=(false,eval e X.env)::starEach es X.env:=by rfl) (hpl:(backTo pos (starEach es X.env)).any (·.1)=false:=by rfl):PE X (.Call (.Name x p) (e::es) [] pos) (Ab r t):=by intro pins s σ H Q I h;refine wpAny_Call_Name_kw (lQ I hg hm hv ?_ hn hdb);exact PyProof.Rows.callWith_builtin1 (cA (ha pos pins s σ H _ I h) fun us s1⟨vs,H1,I1,r1,q1⟩=>hc pins s1 σ H1 vs us Q I1 r1 q1) he hpl
theorem Ba (hc:m7 X (.type T) r) (hg:Gl X x) (hm:X.mg x=none) (hv:bootBuiltins x=some (.type T)) (ha:PA X (e::es) t) (hn:x≠"__name__":=by decide) (hdb:(x==("__debug__":Str))=false:=by decide) (he:starEach (e::es) X.env=(false,eval e X.env)::starEach es X.env:=by rfl) (hpl:(backTo pos (starEach es X.env)).any (·.1)=false:=by rfl):PE X (.Call (.Name x p) (e::es) [] pos) (Ab r t):=by intro pins s σ H Q I h;refine wpAny_Call_Name_kw (lQ I hg hm hv ?_ hn hdb);exact PyProof.Rows.callWith_type1 (cA (ha pos pins s σ H _ I h) fun us s1⟨vs,H1,I1,r1,q1⟩=>hc pins s1 σ H1 vs us Q I1 r1 q1) he hpl
end
end L2
namespace HT
open PySem PyProof.Rows
def lexLt:List Int->List Int->Bool
 |[],[]=>false
 |[],_::_=>true
 |_::_,[]=>false
 |x::xs,y::ys=>if x=y then lexLt xs ys else decide (x<y)
theorem zE(x y:Int)(xs ys:List Int):lexLt (x::xs) (y::ys)=if x=y then lexLt xs ys else decide (x<y):=rfl
theorem tL:lexLt [] []=false:=rfl
theorem rM(y:Int)(ys:List Int):lexLt [] (y::ys)=true:=rfl
theorem tE(x:Int)(xs:List Int):lexLt (x::xs) []=false:=rfl
theorem Dc(A:Around)(s:Shared)(a:Int)(t:Tok)(c:Int)(u:Tok):∃e,SeqAt.EqAt A s (.int a t) (.int c u) e/\(e=true↔a=c):=⟨(a==c),SeqAt.EqAt.int_int a t c u,by simp⟩
theorem rcLt_int(A:Around)(s:Shared)(a:Int)(t:Tok)(c:Int)(u:Tok)(prog:Program)(w:World)(E:Value->Shared->Prop)(Q:Value->Shared->Prop)(h:Q (.bool (decide (a<c))) s):wpAny (model prog w) A (richCompare .Lt (.int a t) (.int c u)) Q E s:=(PyProof.Rows.lt_int h:wpAny (model prog w) A (compareOp .Lt (.int a t) (.int c u)) Q E s)
section
variable{prog:Program}{w:World}{A:Around}{E:Value->Shared->Prop}{s:Shared}
def sIx(n d:Nat):Option Int->Nat
 |none=>d
 |some v=>if v<0 then(v+(n:Int)).toNat else min v.toNat n
theorem sIx_nat(n d k:Nat):sIx n d (some (k:Int))=min k n:=by show(if(k:Int)<0 then((k:Int)+(n:Int)).toNat else min (k:Int).toNat n)=min k n;rw[if_neg (by omega),Int.toNat_natCast]
end
end HT
namespace L2
open PySem PySem.Spec PyProof.Rows
abbrev TO:=St->Hp->(Option Int->Hp->Prop)->Prop
def PO(X:Cx)(e:Option Expr)(t:TO):Prop:=∀(pins:List (Addr×Obj))(s:Shared)(σ:St)(H:Hp)(Q:Option Int->Hp->Prop),aH X pins σ H s->t σ H Q->wpAny (model X.prog X.w) X.A (evalPart e X.env) (fun u s'=>∃o H',aH X pins σ H' s'/\IsPart u o/\Q o H') X.xe s
def Dh(t:TE):TO:=fun σ H Q=>t σ H fun x H1=>∃i,x=.int i/\Q (some i) H1
theorem dw{ns:List Int}:∀{us:List Value},aQ (ns.map V.int) us->IntsAre us ns:=by
 induction ns with
 |nil=>intro us r;rw[List.map_nil]at r;cases r;exact .nil
 |cons n ns ih=>
  intro us r;rw[List.map_cons]at r;cases r with
  |cons r1 r2=>obtain⟨t,e⟩:=r1;subst e;exact .cons n t (ih r2)
section
variable{X:Cx}{e:Expr}{te:TE}{lo hi:Option Expr}{tl th:TO}{pos p2:Pos}
theorem mG(h:PE X e te):PO X (some e) (Dh te):=by intro pins s σ H Q I hw;rw[evalPart_some];refine cA (h pins s σ H _ I hw) fun u s1⟨x,H1,I1,r1,q1⟩=>?_;obtain⟨i,rfl,q⟩:=q1;obtain⟨t,rfl⟩:=r1;exact⟨some i,H1,I1,.int i t,q⟩
def HJ(X:Cx)(r:V->Option Int->Option Int->Hp->VK->Prop):Prop:=∀(pins:List (Addr×Obj))(s:Shared)(σ:St)(H:Hp)(x:V)(v vl vu:Value)(lo hi:Option Int)(sl:Addr)(Q:VK),aH X pins σ H s->br x v->s.heap.IsSliceOf sl vl vu .none->IsPart vl lo->IsPart vu hi->r x lo hi H Q->∃T id,typeLookup (.type T) "__getitem__"=pure (some (.builtin id))/\s.TypeIs v T/\wpAny (model X.prog X.w) X.A (getItem v (.ref sl)) (EP X pins σ Q) X.xe s
def HK(r:V->Option Int->Option Int->Hp->VK->Prop)(te:TE)(tl th:TO):TE:=fun σ H Q=>te σ H fun x H1=>tl σ H1 fun l H2=>th σ H2 fun u H3=>r x l u H3 Q
theorem sM{r:V->Option Int->Option Int->Hp->VK->Prop}(hr:HJ X r)(he:PE X e te)(hl:PO X lo tl)(hu:PO X hi th):PE X (.Subscript e (.Slice lo hi none p2) pos) (HK r te tl th):=by intro pins s σ H Q I h;refine Subscript_ (cA (he pins s σ H _ I h) fun v s1⟨x,H1,I1,r1,q1⟩=>?_);refine wpAny_Slice (cA (hl pins s1 σ H1 _ I1 q1) fun vl s2⟨l,H2,I2,pl,q2⟩=>cA (hu pins s2 σ H2 _ I2 q2) fun vu s3⟨u,H3,I3,pu,q3⟩=>?_);rw[evalPart_none];refine wpAny_pure ?_;have I4:aH X pins σ H3 { s3 with heap:=s3.heap.push { cls:=.type "slice",data:=.fields #[vl,vu,.none] } }:=I3.kept (t':=s3.toks) fun b ob q=>Heap.get?_push_of_some _ q;obtain⟨T,id,hT,ht,hg⟩:=hr pins { s3 with heap:=s3.heap.push { cls:=.type "slice",data:=.fields #[vl,vu,.none] } } σ H3 x v vl vu l u s3.heap.objs.size Q I4 r1 (Heap.IsSliceOf.new ..) pl pu q3;show wpAny (model X.prog X.w) X.A (subscriptTail e (.Slice lo hi none p2) v (.ref s3.heap.objs.size)) (EP X pins σ Q) X.xe { s3 with heap:=s3.heap.push { cls:=.type "slice",data:=.fields #[vl,vu,.none] } };exact tail_any (ops:=[.ref s3.heap.objs.size,v]) ht hT hg (by with_unfolding_all rfl)
def A0(xs:List V)(lo hi:Option Int):List V:=(xs.drop (HT.sIx xs.length 0 lo)).take (HT.sIx xs.length xs.length hi-HT.sIx xs.length 0 lo)
theorem yc(xs:List V)(lo hi:Option Int):(A0 xs lo hi).length<=xs.length:=by unfold A0;rw[List.length_take,List.length_drop];omega
end
end L2
namespace L2
open PySem PySem.Spec PyProof.Rows
def Dz(n:Nat)(i:Int):Option Nat:=if 0<=i then(if i<n then some i.toNat else none)else if -(n:Int)<=i then some (i+n).toNat else none
def wL{α:Type}(xs:List α)(i:Int):Option α:=(Dz xs.length i).bind fun j=>xs[j]?
theorem Az{n:Nat}{i:Int}{j:Nat}(h:Dz n i=some j):seqIndex? i n=some j/\j<n/\-(n:Int)<=i/\i<n:=by
 unfold Dz at h;by_cases h0:0<=i
 ·rw[if_pos h0]at h;by_cases h1:i<n
  ·rw[if_pos h1]at h;have e:i.toNat=j:=Option.some.inj h;exact⟨by rw[seqIndex_of h0 h1,e],by omega,by omega,h1⟩
  ·rw[if_neg h1]at h;cases h
 ·rw[if_neg h0]at h;by_cases h1:-(n:Int)<=i
  ·rw[if_pos h1]at h;have e:(i+n).toNat=j:=Option.some.inj h;exact⟨by rw[seqIndex_neg (by omega) h1,e],by omega,h1,by omega⟩
  ·rw[if_neg h1]at h;cases h
theorem wD{α:Type}{xs:List α}{i:Int}{v:α}(h:wL xs i=some v):∃j,seqIndex? i xs.length=some j/\xs[j]?=some v/\j<xs.length/\-(xs.length:Int)<=i/\i<xs.length:=by
 unfold wL at h;cases e:Dz xs.length i with
 |none=>rw[e]at h;cases h
 |some j=>rw[e]at h;obtain⟨h1,h2,h3,h4⟩:=Az e;exact⟨j,h1,h,h2,h3,h4⟩
theorem vt{α:Type}{xs:List α}{j:Nat}{v:α}(h:xs[j]?=some v):wL xs (j:Int)=some v:=by
 have hj:j<xs.length:=(List.getElem?_eq_some_iff.mp h).1;have e:Dz xs.length (j:Int)=some j:=by unfold Dz;rw[if_pos (by omega),if_pos (by omega)];simp
 unfold wL;rw[e];exact h
def wA(b:Expr):Prop:=∀o i,subscripted b false o i=operate [o,i] (getItem o i)
def GL(X:Cx)(r:R2):Prop:=∀(value slice:Expr)(pins:List (Addr×Obj))(s:Shared)(σ:St)(H:Hp)(x y:V)(v u:Value)(Q:VK),aH X pins σ H s->br x v->br y u->r x y H Q->subscripted slice false v u=operate [v,u] (getItem v u)->wpAny (model X.prog X.w) X.A (subscriptTail value slice v u) (EP X pins σ Q) X.xe s
def HF(X:Cx)(id:String)(r:V->List V->Hp->VK->Prop):Prop:=∀(pins:List (Addr×Obj))(s:Shared)(σ:St)(H:Hp)(x:V)(xs:List V)(v:Value)(us:List Value)(Q:VK),aH X pins σ H s->br x v->aQ xs us->r x xs H Q->wpAny (model X.prog X.w) X.A (call (.builtin id) (v::us)) (EP X pins σ Q) X.xe s
section
variable{X:Cx}{a b:Expr}{ta tb:TE}{pos:Pos}
theorem rF{r:R2}(hr:GL X r)(ha:PE X a ta)(hb:PE X b tb)(hs:wA b):PE X (.Subscript a b pos) (fB r ta tb):=by intro pins s σ H Q I h;exact Subscript_ (F3 ha hb I h fun v u s2 x y H2 I2 rx ry q=>hr a b pins s2 σ H2 x y v u Q I2 rx ry q (hs _ _))
def kh(K:W.Frag):R2:=fun x y H Q=>∃p xs i v,x=.ref p/\y=.int i/\aV K H p xs/\wL xs i=some v/\Q v H
def vY(K:W.Frag):R2:=fun x y H Q=>∃p xs i v,x=.ref p/\y=.int i/\i6 K H p xs/\wL xs i=some v/\Q v H
theorem AI:GL X (kh X.K):=by
 intro value slice pins s σ H x y v u Q I rx ry h hs;obtain⟨p,xs,i,z,rfl,rfl,hq,he,q⟩:=h;cases rx;obtain⟨t,rfl⟩:=ry;obtain⟨its,r,pl,hz⟩:=I.list hq;obtain⟨j,h1,h2,h3,h4,h5⟩:=wD he;obtain⟨w,ew,rw'⟩:=r.get h2;have hl:=r.length;have hn:=nM;have fin:EP X pins σ Q w s:=⟨z,H,I,rw',q⟩
 by_cases h0:0<=i
 ·have hj:i.toNat=j:=by rw[seqIndex_of h0 h5]at h1;exact Option.some.inj h1
  exact item_listR pl.isList h0 (by omega) (by rw[hj];simpa using ew) fin hs
 ·have hj:(i+(its.toArray.size:Int)).toNat=j:=by rw[seqIndex_neg (by omega) h4]at h1;rw[List.size_toArray,<-hl];exact Option.some.inj h1
  exact subscriptTail_builtinR (x:=w) pl.isList.typeIs slot_list_getitem.lookup (wpAny_getItem_list_neg (Q:=fun r s'=>r=w/\EP X pins σ Q r s') pl.isList (by omega) (by rw[List.size_toArray]<;>omega) (by omega) (by rw[hj];simpa using ew) ⟨rfl,fin⟩) hs
theorem r9:GL X (vY X.K):=by
 intro value slice pins s σ H x y v u Q I rx ry h hs;obtain⟨p,xs,i,z,rfl,rfl,hq,he,q⟩:=h;cases rx;obtain⟨t,rfl⟩:=ry;obtain⟨its,r,pl,hz⟩:=I.tuple hq;obtain⟨j,h1,h2,h3,h4,h5⟩:=wD he;obtain⟨w,ew,rw'⟩:=r.get h2;have hl:=r.length;have hn:=nM;have fin:EP X pins σ Q w s:=⟨z,H,I,rw',q⟩
 exact subscriptTail_builtinR (x:=w) pl.typeIs slot_tuple_getitem.lookup (getItem_tuple (j:=j) (Q:=fun r s'=>r=w/\EP X pins σ Q r s') pl (by omega) (by omega) (by rw[List.size_toArray,<-hl];exact h1) (by simpa using ew) ⟨rfl,fin⟩) hs
theorem zL (its:List Value) (n j:Nat) (u:Value):Obj.mapSeq (·.setIfInBounds j u) { cls:=.type "list",data:=.seq its.toArray n }={ cls:=.type "list",data:=.seq (its.set j u).toArray n }:=by simp[Obj.mapSeq]
theorem aH.lst{pins:List (Addr×Obj)}{σ:St}{H:Hp}{s:Shared}{p:Addr}{xs:List V}(I:aH X pins σ H s)(h:H p=some (.lst xs)):∃(its:List Value) (n:Nat),aQ xs its/\s.heap.get? p=some { cls:=.type "list",data:=.seq its.toArray n }/\xs.length<=sizeLine:=by obtain⟨z,its,n,r,e⟩:=I.hok p _ h;exact⟨its,n,r,e,z⟩
theorem aH.lstUpd{pins:List (Addr×Obj)}{σ:St}{H:Hp}{s:Shared}{p:Addr}{xs ys:List V}{its its':List Value}{n n':Nat}{f:Obj->Obj}(I:aH X pins σ H s)(h:H p=some (.lst xs)) (ho:s.heap.get? p=some { cls:=.type "list",data:=.seq its.toArray n }) (hf:f { cls:=.type "list",data:=.seq its.toArray n }={ cls:=.type "list",data:=.seq its'.toArray n' }) (r:aQ ys its') (hz:ys.length<=sizeLine) (t:Nat) :aH X pins σ (aI H p (.lst ys)) { s with heap:=s.heap.update p f,toks:=t }:=by
 have e:(s.heap.update p f).get? p=some { cls:=.type "list",data:=.seq its'.toArray n' }:=by rw[Heap.get?_update_self f ho (by rw[hf]<;>rfl),hf]
 refine I.write (x:=p) (e:=p) (by rw[h];trivial) (.inl rfl) (fun b u hb q=>(Heap.get?_update_other _ _ (Ne.symm hb)).trans q) ⟨_,e⟩ ?_;exact⟨hz,its',n',r,e⟩
def xw:V->V->V->Hp->(Hp->Prop)->Prop:=fun o i v H Q=>∃p xs k j,o=.ref p/\i=.int k/\H p=some (.lst xs)/\Dz xs.length k=some j/\Q (aI H p (.lst (xs.set j v)))
theorem de:F1 X xw:=by
 intro pins s σ H o i v ov iv u Q I ro ri rv h;obtain⟨p,xs,k,j,rfl,rfl,hp,hj,q⟩:=h;cases ro;obtain⟨t,rfl⟩:=ri;obtain⟨its,n,r,ho,hz⟩:=I.lst hp;obtain⟨h1,h2,h3,h4⟩:=Az hj;have hl:=r.length;have hn:=nM;have I':aH X pins σ (aI H p (.lst (xs.set j v))) { s with heap:=s.heap.update p (Obj.mapSeq (·.setIfInBounds j u)) }:=I.lstUpd hp ho (zL its n j u) (r.set rv j) (by rw[List.length_set];exact hz) s.toks;by_cases h0:0<=k
 ·have hk:k.toNat=j:=by rw[seqIndex_of h0 h4]at h1;exact Option.some.inj h1
  exact W.ki_setAt ho h0 (by omega) (by rw[List.size_toArray,<-hl];exact h4) (by rw[hk];exact⟨_,I',q⟩)
 ·have hk:(k+(its.toArray.size:Int)).toNat=j:=by rw[seqIndex_neg (by omega) h3]at h1;rw[List.size_toArray,<-hl];exact Option.some.inj h1
  exact W.ki_setBack ho (by omega) (by rw[List.size_toArray,<-hl];exact h3) (by omega) (by rw[hk];exact⟨_,I',q⟩)
theorem vw(lo hi:Option Int)(n:Nat):(sliceBounds lo hi none n).1=((HT.sIx n 0 lo:Nat):Int)/\(sliceBounds lo hi none n).2.1=((HT.sIx n n hi:Nat):Int)/\(sliceBounds lo hi none n).2.2=1:=by
 refine⟨?_,?_,rfl⟩
 ·cases lo with
  |none=>simp[sliceBounds,HT.sIx]
  |some i=>
   simp only[sliceBounds,HT.sIx,Option.getD_none,show(1:Int)>0 by decide,if_true];by_cases h:i<0
   ·simp only[h,if_true]<;>omega
   ·simp only[h,if_false]<;>omega
 ·cases hi with
  |none=>simp[sliceBounds,HT.sIx]
  |some i=>
   simp only[sliceBounds,HT.sIx,Option.getD_none,show(1:Int)>0 by decide,if_true];by_cases h:i<0
   ·simp only[h,if_true]<;>omega
   ·simp only[h,if_false]<;>omega
theorem tS(its:List Value)(lo hi:Option Int):slicePick its.toArray lo hi none=((its.drop (HT.sIx its.length 0 lo)).take (HT.sIx its.length its.length hi-HT.sIx its.length 0 lo)).toArray:=by obtain⟨h1,h2,h3⟩:=vw lo hi its.toArray.size;unfold slicePick;rw[h1,h2,h3];simp only[sliceRange_one,pick_run,List.size_toArray]<;>rfl
def GA(K:W.Frag):V->Option Int->Option Int->Hp->VK->Prop:=fun x lo hi H Q=>∃a xs,x=.ref a/\aV K H a xs/\∀p,H p=none->Q (.ref p) (aI H p (.lst (A0 xs lo hi)))
theorem vI:HJ X (GA X.K):=by intro pins s σ H x v vl vu lo hi sl Q I rx hs pl pu h;obtain⟨a,xs,rfl,hx,q⟩:=h;cases rx;obtain⟨its,r,ht,hz⟩:=I.list hx;have hlen:=r.length;refine⟨"list",_,slot_list_getitem.lookup,ht.isList.typeIs,?_⟩;refine wpAny_getItem_list_slice ht.isList hs pl pu .none (by simp) ?_ (by rw[List.size_toArray]<;>omega);rw[tS,<-hlen];refine⟨.ref s.heap.objs.size,_,I.laid (t':=s.toks) (o:=.lst (A0 xs lo hi)) (fun b ob q=>Heap.get?_push_of_some _ q) (Nat.le_refl _) ?_,rfl,q _ (I.hok.fresh (Nat.le_refl _))⟩;exact⟨Nat.le_trans (yc xs lo hi) hz,_,0,(r.drop (HT.sIx xs.length 0 lo)).take (HT.sIx xs.length xs.length hi-HT.sIx xs.length 0 lo),Heap.get?_push_size _ rfl⟩
theorem jP:m7 X (.builtin "len") (fun xs H Q=>∃p ys,xs=[.ref p]/\(aV X.K H p ys\/i6 X.K H p ys)/\Q (.int ys.length) H):=by
 intro pins s σ H xs us Q I r h;obtain⟨p,ys,rfl,hq,q⟩:=h;obtain⟨u,rfl,rx⟩:=zM r;cases rx;have hn:=nM;rcases hq with hq|hq
 ·obtain⟨its,r',pl,hz⟩:=I.list hq;have hlen:=r'.length;exact Calls.call_len_list pl.isList (by simp only[List.size_toArray]<;>omega) ⟨.int ys.length,H,I.tok _,⟨s.toks+1,by rw[List.size_toArray,hlen]⟩,q⟩
 ·obtain⟨its,r',pl,hz⟩:=I.tuple hq;have hlen:=r'.length;exact len_tuple pl (by simp only[List.size_toArray]<;>omega) ⟨.int ys.length,H,I.tok _,⟨s.toks+1,by rw[List.size_toArray,hlen]⟩,q⟩
def GX(K:W.Frag)(T:String)(x:V)(H:Hp):Prop:=match x with
 |.str _=>T="str"
 |.int _=>T="int"
 |.ref p=>(T="list"/\∃xs,aV K H p xs)\/(T="tuple"/\∃o,K.lookup p=some o/\o.cls=.type "tuple"/\o.dict=none)\/(T="dict"/\((∃kvs,H p=some (.dK kvs))\/∃kvs,H p=some (.dT kvs)))\/(T="set"/\∃S n,H p=some (.set S n))
 |_=>False
theorem Cv{pins:List (Addr×Obj)}{σ:St}{H:Hp}{s:Shared}{T:String}{x:V}{v:Value}(I:aH X pins σ H s)(r:br x v)(ty:GX X.K T x H):s.TypeIs v T/\∀a,v=.ref a->∃ob,s.heap.get? a=some ob/\ob.dict=none:=by
 cases x with
 |str z=>obtain⟨t,rfl⟩:=r;cases(show T="str" from ty);exact⟨typeIs_str s z t,fun _ e=>nomatch e⟩
 |int i=>obtain⟨t,rfl⟩:=r;cases(show T="int" from ty);exact⟨typeIs_int s i t,fun _ e=>nomatch e⟩
 |ref p=>
  cases r;rcases ty with⟨rfl,xs,hq⟩|⟨rfl,o,hk,hc,hd⟩|⟨rfl,hk⟩|⟨rfl,S,n,hk⟩
  ·obtain⟨its,_,pl,_⟩:=I.list hq;refine⟨pl.isList.typeIs,fun a e=>?_⟩;cases e;obtain⟨o,n,e,c,hd,_⟩:=pl;exact⟨o,e,hd⟩
  ·refine⟨⟨o,I.kIn p o hk,hc⟩,fun a e=>?_⟩;cases e;exact⟨o,I.kIn _ o hk,hd⟩
  ·have z:∃o,s.heap.get? p=some o/\o.ExactDict:=by
    rcases hk with⟨kvs,hk⟩|⟨kvs,hk⟩
    ·obtain⟨_,_,_,_,o,_,_,e,ex,_⟩:=I.hok p _ hk;exact⟨o,e,ex⟩
    ·obtain⟨_,_,_,_,o,_,_,e,ex,_⟩:=I.hok p _ hk;exact⟨o,e,ex⟩
   obtain⟨o,e,ex⟩:=z;refine⟨⟨o,e,ex.1⟩,fun a e2=>?_⟩;cases e2;exact⟨o,e,ex.2.1⟩
  ·obtain⟨o,_,_,_,e,ex,_⟩:=I.hok p _ hk;refine⟨⟨o,e,ex.1⟩,fun a e2=>?_⟩;cases e2;exact⟨o,e,ex.2.1⟩
 |_=>exact False.elim ty
def Gb(K:W.Frag)(T:String)(r:V->List V->Hp->VK->Prop)(to:TE):TE:=fun σ H Q=>to σ H fun x H1=>GX K T x H1/\r x [] H1 Q
def Gq(K:W.Frag)(T:String)(r:V->List V->Hp->VK->Prop)(to:TE)(t:TA):TE:=fun σ H Q=>to σ H fun x H1=>GX K T x H1/\t σ H1 fun xs H2=>r x xs H2 Q
variable{o e:Expr}{es:List Expr}{to:TE}{t:TA}{name:Str}{apos cpos:Pos}{T id:String}{r:V->List V->Hp->VK->Prop}
theorem FX (pa:PlainAttrs T) (slot:Slot T name id) (hty:typeOf (.builtin id)=pure (.type "method_descriptor")) (hm:HF X id r) (ho:PE X o to) (hbase:attributeBase o name X.env (eval o X.env)=eval o X.env:=by rfl) (hline:(apos.endLine==cpos.line)=true:=by rfl):PE X (.Call (.Attribute o name apos) [] [] cpos) (Gb X.K T r to):=by intro pins s σ H Q I h;refine wpAny_Call_method0_late hbase hline (cA (ho pins s σ H _ I h) fun v s1⟨x,H1,I1,r1,ty,q1⟩=>?_);obtain⟨h1,h2⟩:=Cv I1 r1 ty;exact⟨T,id,pa,slot,hty,h1,h2,Calls.callWith_builtin rfl (PySem.evalArgs_none (hm pins s1 σ H1 x [] v [] Q I1 r1 .nil q1))⟩
theorem ng (pa:PlainAttrs T) (slot:Slot T name id) (hty:typeOf (.builtin id)=pure (.type "method_descriptor")) (hm:HF X id r) (ho:PE X o to) (ha:PA X (e::es) t) (hbase:attributeBase o name X.env (eval o X.env)=eval o X.env:=by rfl) (hfew:((backTo cpos (starEach (e::es) X.env)).all (fun x=>!x.1)&&(backToKw cpos (keywordEach [] X.env)).all (fun x=>x.1.isSome) && decide ((e::es).length+([]:List Keyword).length+(if([]:List Keyword).isEmpty then 0 else 1)<30))=true:=by rfl) (hline:(apos.endLine==cpos.line)=true:=by rfl) (hs:starEach (e::es) X.env=(false,eval e X.env)::starEach es X.env:=by rfl) (hplain:(backTo cpos (starEach es X.env)).any (·.1)=false:=by rfl) :PE X (.Call (.Attribute o name apos) (e::es) [] cpos) (Gq X.K T r to t):=by intro pins s σ H Q I h;refine wpAny_Call_method_late hbase hfew hline rfl (cA (ho pins s σ H _ I h) fun v s1⟨x,H1,I1,r1,ty,q1⟩=>?_);obtain⟨h1,h2⟩:=Cv I1 r1 ty;refine⟨T,id,pa,slot,hty,h1,h2,?_⟩;have hA:=ha cpos pins s1 σ H1 _ I1 q1;rw[hs]at hA⊢;refine Calls.callWith_builtin (by show(false||(backTo cpos (starEach es X.env)).any (·.1))=false;rw[hplain]<;>rfl) (Calls.evalArgs_plain ?_);exact cA hA fun us s2⟨vs,H2,I2,r2,q2⟩=>hm pins s2 σ H2 x vs v us Q I2 r1 r2 q2
end
end L2
namespace L2
open PySem PySem.Spec PyProof.Rows
def GZ(X:Cx)(id:String)(r:V->List V->Hp->VK->Prop):Prop:=∀(pins:List (Addr×Obj))(s:Shared)(σ:St)(H:Hp)(x:V)(xs:List V)(v:Value)(us:List Value)(Q:VK),aH X pins σ H s->br x v->aQ xs us->r x xs H Q->wpAny (model X.prog X.w) X.A (call (.builtin id) (v::us)) (EP X pins σ Q) X.xe s
theorem aQ.one:∀{x:V}{us:List Value},aQ [x] us->∃u,us=[u]/\br x u
 |_,_,.cons r .nil=>⟨_,rfl,r⟩
theorem aQ.two:∀{x y:V}{us:List Value},aQ [x,y] us->∃u v,us=[u,v]/\br x u/\br y v
 |_,_,_,.cons r (.cons q .nil)=>⟨_,_,rfl,r,q⟩
theorem aQ.zero:∀{us:List Value},aQ [] us->us=[]
 |_,.nil=>rfl
theorem aQ.dropLast{xs:List V}{us:List Value}(h:aQ xs us):aQ xs.dropLast us.dropLast:=by
 induction h with
 |nil=>exact .nil
 |cons r t ih=>
  cases t with
  |nil=>exact .nil
  |cons q t'=>exact .cons r ih
theorem aQ.reverse{xs:List V}{us:List Value}(h:aQ xs us):aQ xs.reverse us.reverse:=by
 induction h with
 |nil=>exact .nil
 |cons r t ih=>rw[List.reverse_cons,List.reverse_cons];exact aQ.append ih (.cons r .nil)
theorem aQ.rep{xs:List V}{us:List Value}(h:aQ xs us):∀k:Nat,aQ (List.replicate k xs).flatten (List.replicate k us).flatten
 |0=>.nil
 |k+1=>by rw[List.replicate_succ,List.replicate_succ,List.flatten_cons,List.flatten_cons];exact aQ.append h (aQ.rep h k)
theorem zA{α:Type}(l:List α):l.eraseIdx (l.length-1)=l.dropLast:=by
 induction l with
 |nil=>rfl
 |cons a r ih=>
  cases r with
  |nil=>rfl
  |cons b r=>
   have e:(a::b::r).length-1=((b::r).length-1)+1:=by have h1:(a::b::r).length=r.length+2:=rfl;have h2:(b::r).length=r.length+1:=rfl;omega
   rw[e,List.eraseIdx_cons_succ,ih];all_goals rfl
theorem ug(its:List Value):∀(k:Nat)(acc:List Value),List.foldl (fun x1 x2=>x1++x2) acc.toArray (List.replicate k its.toArray)=(acc++(List.replicate k its).flatten).toArray
 |0,acc=>by simp
 |k+1,acc=>by
  have e:acc.toArray++its.toArray=(acc++its).toArray:=by simp
  have e2:(acc++its)++(List.replicate k its).flatten=acc++(List.replicate (k+1) its).flatten:=by rw[List.replicate_succ,List.flatten_cons,List.append_assoc]
  rw[<-e2,<-ug its k (acc++its),<-e,List.replicate_succ,List.foldl_cons]
section
variable{X:Cx}{pins:List (Addr×Obj)}{σ:St}{H:Hp}{s:Shared}{l b:Addr}{xs ys zs:List V}
theorem aH.lset{its its':List Value}{n:Nat}{f:Array Value->Array Value}{t':Nat}(I:aH X pins σ H s)(hH:H l=some (.lst xs)) (e:s.heap.get? l=some { cls:=.type "list",data:=.seq its.toArray n }) (hf:f its.toArray=its'.toArray) (hv:aQ ys its') (hz:ys.length<=sizeLine) :aH X pins σ (aI H l (.lst ys)) { s with heap:=s.heap.update l (Obj.mapSeq f),toks:=t' }:=by have q:=PySem.IsL.update e f;rw[hf]at q;refine I.write (x:=l) (e:=l) (by rw[hH];exact trivial) (.inl rfl) (fun b' u hb hu=>(Heap.get?_update_other s.heap (Obj.mapSeq f) (Ne.symm hb)).trans hu) ⟨_,q⟩ ?_;exact⟨hz,its',_,hv,q⟩
theorem aH.lnew{its:List Value}{t':Nat}(I:aH X pins σ H s)(hv:aQ ys its)(hz:ys.length<=sizeLine):aH X pins σ (aI H s.heap.objs.size (.lst ys)) { s with heap:=s.heap.push { cls:=.type "list",data:=.seq its.toArray },toks:=t' }:=I.laid (fun _ _ q=>Heap.get?_push_of_some _ q) (Nat.le_refl _) ⟨hz,its,0,hv,Heap.get?_push_size _ rfl⟩
theorem aH.fresh(I:aH X pins σ H s):H s.heap.objs.size=none:=I.hok.fresh (Nat.le_refl _)
theorem aH.lstM (I:aH X pins σ H s) (hH:H l=some (.lst xs)):xs.length<=sizeLine/\∃(its:List Value) (n:Nat),aQ xs its/\xs.length=its.length/\s.heap.get? l=some { cls:=.type "list",data:=.seq its.toArray n }:=by obtain⟨z,its,n,r,e⟩:=I.hok l _ hH;exact⟨z,its,n,r,r.length,e⟩
theorem x8{n:Nat}(h:n<=sizeLine):Builtin.List.listTooLong n=false:=by unfold Builtin.List.listTooLong;exact decide_eq_false (by omega)
end
section
variable{X:Cx}
def Em:V->List V->Hp->VK->Prop:=fun x vs H Q=>∃l xs y,x=.ref l/\vs=[y]/\H l=some (.lst xs)/\xs.length<sizeLine/\Q .non (aI H l (.lst (xs++[y])))
theorem mM:GZ X "list.append" Em:=by intro pins s σ H x vs v us Q I rx rv h;obtain⟨l,xs,y,rfl,rfl,hH,hz,q⟩:=h;cases rx;obtain⟨u,rfl,ru⟩:=rv.one;obtain⟨z,its,n,r,hl,e⟩:=I.lstM hH;refine call_meets F.slot_list_append ⟨_,e,rfl⟩ F.entry_list_append (F.args_list_append_2 _ _) (PySem.list_append l its.toArray n u (by rw[List.size_toArray];omega)) ⟨e,?_⟩;refine⟨.non,_,I.lset (its':=its++[u]) hH e (by simp) (r.append (.cons ru .nil)) ?_,rfl,q⟩;rw[List.length_append,List.length_singleton];omega
def Aq:V->List V->Hp->VK->Prop:=fun x vs H Q=>∃l b xs zs,x=.ref l/\vs=[.ref b]/\H l=some (.lst xs)/\H b=some (.lst zs)/\xs.length+zs.length<=sizeLine/\Q .non (aI H l (.lst (xs++zs)))
theorem js:GZ X "list.extend" Aq:=by
 intro pins s σ H x vs v us Q I rx rv h;obtain⟨l,b,xs,zs,rfl,rfl,hH,hB,hz,q⟩:=h;cases rx;obtain⟨u,rfl,ru⟩:=rv.one;cases ru;obtain⟨z,its,n,r,hl,e⟩:=I.lstM hH;obtain⟨z2,its2,n2,r2,hl2,e2⟩:=I.lstM hB;have hsz:its.toArray.size+its2.toArray.size<=sizeLine:=by rw[List.size_toArray,List.size_toArray];omega
 have hlong:¬(!its.toArray.isEmpty&&Builtin.List.listTooLong (its.toArray.size+its2.toArray.size))=true:=by rw[x8 hsz,Bool.and_false];exact Bool.false_ne_true
 refine call_meets F.slot_list_extend ⟨_,e,rfl⟩ F.entry_list_extend (F.args_list_extend_2 _ _) (AutoSeq1.list_extend_list_list_0 l its.toArray n b its2.toArray n2 hlong (by rw[List.size_toArray];omega) (by omega)) ⟨e,e2,?_⟩;refine⟨.non,_,I.lset (its':=its++its2) hH e (by simp) (r.append r2) ?_,rfl,q⟩;rw[List.length_append];omega
def HA:V->List V->Hp->VK->Prop:=fun x vs H Q=>∃l xs y,x=.ref l/\vs=[]/\H l=some (.lst xs)/\xs[xs.length-1]?=some y/\Q y (aI H l (.lst xs.dropLast))
theorem Fz:GZ X "list.pop" HA:=by
 intro pins s σ H x vs v us Q I rx rv h;obtain⟨l,xs,y,rfl,rfl,hH,hy,q⟩:=h;cases rx;have hus:=rv.zero;subst hus;obtain⟨z,its,n,r,hl,e⟩:=I.lstM hH;obtain⟨u,hu,ru⟩:=r.get hy;have hy':its.toArray[its.toArray.size-1]?=some u:=by show its.toArray[its.length-1]?=some u;rw[<-Array.getElem?_toList,<-hl];exact hu
 refine call_meets F.slot_list_pop ⟨_,e,rfl⟩ F.entry_list_pop (F.args_list_pop_1 _) (MeetsSeq.list_pop_last l its.toArray n u hy' (by rw[List.size_toArray];omega)) ⟨e,?_⟩;refine⟨y,_,I.lset (its':=its.dropLast) hH e ?_ r.dropLast ?_,ru,q⟩
 ·show its.toArray.eraseIdxIfInBounds (its.toArray.size-1)=its.dropLast.toArray;rw[List.size_toArray,List.eraseIdxIfInBounds_toArray,zA]
 ·rw[List.length_dropLast];omega
def t_:R2:=fun x y H Q=>∃l b xs zs,x=.ref l/\y=.ref b/\H l=some (.lst xs)/\H b=some (.lst zs)/\xs.length+zs.length<=sizeLine/\∀p,H p=none->Q (.ref p) (aI H p (.lst (xs++zs)))
theorem i3:om X (binaryOp .Add) t_:=by
 intro pins s σ H x y v u Q I rx ry h;obtain⟨l,b,xs,zs,rfl,rfl,hH,hB,hz,q⟩:=h;cases rx;cases ry;obtain⟨z,its,n,r,hl,e⟩:=I.lstM hH;obtain⟨z2,its2,n2,r2,hl2,e2⟩:=I.lstM hB;refine PySem.P.add_list e e2 ?_ (by rw[List.size_toArray,List.size_toArray];omega);have ea:its.toArray++its2.toArray=(its++its2).toArray:=by simp
 rw[ea];exact⟨.ref _,_,I.lnew (t':=s.toks) (r.append r2) (by rw[List.length_append];omega),rfl,q _ I.fresh⟩
def D5:R2:=fun x y H Q=>∃l k xs,x=.ref l/\y=.int k/\H l=some (.lst xs)/\-(2^63)<=k/\k<2^63/\xs.length*k.toNat<=sizeLine/\∀p,H p=none->Q (.ref p) (aI H p (.lst (List.replicate k.toNat xs).flatten))
theorem DR{α:Type}(xs:List α)(k:Nat):(List.replicate k xs).flatten.length=k*xs.length:=by
 induction k with
 |zero=>simp
 |succ k ih=>rw[List.replicate_succ,List.flatten_cons,List.length_append,ih,Nat.succ_mul,Nat.add_comm]
theorem FM:om X (binaryOp .Mult) D5:=by
 intro pins s σ H x y v u Q I rx ry h;obtain⟨l,k,xs,rfl,rfl,hH,h1,h2,hz,q⟩:=h;cases rx;obtain⟨t,rfl⟩:=ry;obtain⟨z,its,n,r,hl,e⟩:=I.lstM hH;have hlen:its.toArray.size*k.toNat<=sizeLine:=by rw[List.size_toArray,<-hl];exact hz
 have hcap:¬its.toArray.size*k.toNat>(2^63-1)/8:=by
  have:(sizeLine:Nat)<=(2^63-1)/8:=by decide
  omega
 have hfit:¬(!Builtin.List.listFitsIndex k)=true:=by rw[fitsIndex_both h1 h2];exact Bool.false_ne_true
 have hlong:¬Builtin.List.listTooLong (its.toArray.size*k.toNat)=true:=by rw[x8 hlen];exact Bool.false_ne_true
 have hnew:List.foldl (fun x1 x2=>x1++x2) #[] (List.replicate (if its.toArray.isEmpty=true then 0 else k.toNat) its.toArray)=(List.replicate k.toNat its).flatten.toArray:=by
  have f0:∀m:Nat,List.foldl (fun x1 x2=>x1++x2) #[] (List.replicate m its.toArray)=(List.replicate m its).flatten.toArray:=fun m=>by have:=ug its m [];rw[List.nil_append]at this;exact this
  rw[f0];cases its with
  |nil=>simp
  |cons a r'=>rw[if_neg (by simp)]
 refine wpAny_binaryOp_repeat_ref (T:="list") (U:="int") (by decide) ⟨_,e,rfl⟩ (fun s'=>typeIs_int s' k t) noFill_list_mul F.fills_int_mul F.slot_int_rmul repeat_list F.slot_int_index.lookup (call_meets F.slot_int_rmul (typeIs_int s k t) F.entry_int_rmul (F.args_int_rmul_2 _ _) (int___rmul___int_list k t l its.toArray n) ⟨e,rfl,⟨_,e,rfl⟩,call_meets F.slot_list_mul ⟨_,e,rfl⟩ F.entry_list_mul (F.args_list_mul_2 _ _) (AutoListH.list___mul___list_int_3 l its.toArray n k t hfit hcap hlong) ⟨e,?_⟩⟩);rw[hnew];exact⟨.ref _,_,I.lnew (t':=s.toks) (r.rep k.toNat) (by rw[DR,Nat.mul_comm];exact hz),rfl,q _ I.fresh⟩
end
end L2
namespace L2
open PySem PySem.Spec PyProof.Rows
theorem aQ.ints:∀{ns:List Int}{us:List Value},aQ (ns.map V.int) us->IntsAre us ns
 |[],us,h=>by rw[List.map_nil]at h;cases h;exact IntsAre.nil
 |n::ns,us,h=>by
  rw[List.map_cons]at h;cases h with
  |cons r t=>obtain⟨k,rfl⟩:=r;exact IntsAre.cons n k (aQ.ints t)
theorem aQ.bls:∀{bs:List Bool}{us:List Value},aQ (bs.map V.bl) us->us=bs.map Value.bool
 |[],us,h=>by rw[List.map_nil]at h;cases h;rfl
 |b::bs,us,h=>by
  rw[List.map_cons]at h;cases h with
  |cons r t=>cases r;rw[aQ.bls t,List.map_cons]
theorem aQ.ref1{a:Addr}{us:List Value}(r:aQ [V.ref a] us):us=[Value.ref a]:=by
 cases r with
 |cons r t=>cases t;cases r;rfl
section
variable{prog:Program}{w:World}{A:Around}{E:Value->Shared->Prop}{s:Shared}{l:Addr}{its:List Value}{ns:List Int}{Q:Value->Shared->Prop}
theorem Eg(hh:A.handled=none)(hl:s.heap.IsList l its.toArray)(hi:IntsAre its ns) (h:∀h' tk t',(∀b o,s.heap.get? b=some o->h'.get? b=some o)->Q (.int ns.sum t') { s with heap:=h',toks:=tk }):wpAny (model prog w) A (call (.builtin "sum") [.ref l]) Q E s:=by
 obtain⟨xs,e⟩:=hi.allInts.items;have hn:numsOf (intItems xs).toList=ns:=by rw[<-e];exact hi.numsOf
 rw[nums_intItems]at hn;rw[e]at hl;refine PySem.sum_intListG hh hl fun h' tk t' hk=>?_;have:=h h' tk t' hk;rw[preSum_eq,List.take_of_length_le (by simp),hn];exact this
end
section
variable{X:Cx}
def Fv(K:W.Frag):List V->Hp->VK->Prop:=fun vs H Q=>∃(a:Addr)(ns:List Int),vs=[V.ref a]/\aV K H a (ns.map V.int)/\Q (.int ns.sum) H
theorem B5 (hc:X.calm=true):m7 X (.builtin "sum") (Fv X.K):=by intro pins s σ H vs us Q I r h;obtain⟨a,ns,rfl,hs,q⟩:=h;obtain⟨its,rv,hl,_⟩:=I.list hs;rw[aQ.ref1 r];exact Eg (I.ok.hd hc) hl.isList rv.ints fun h' tk t' hk=>⟨.int _,H,I.kept hk,⟨_,rfl⟩,q⟩
end
theorem CY{prog:Program}{w:World}{A:Around}{E:Value->Shared->Prop}{s:Shared}{l:Addr}{items:Array Value}{Q:Value->Shared->Prop}(hl:s.heap.IsList l items) (h:∀s₂:Shared,s₂={ s with heap:=s.heap.push { cls:=.type "list_iterator",data:=.fields #[.ref l,.int 0 0] } }->(s₂.heap.IsListIter s.heap.objs.size l 0/\s₂.heap.IsList l items)->l≠s.heap.objs.size->Q (.ref s.heap.objs.size) s₂):wpAny (model prog w) A (pyIter (.ref l)) Q E s:=by
 have hlt:l<s.heap.objs.size:=by obtain⟨_,e,_⟩:=hl;exact Heap.lt_size e
 exact wpAny_pyIter_list hl (h _ rfl ⟨⟨_,Heap.get?_push_size _ rfl,rfl,rfl⟩,hl.push _⟩ (Nat.ne_of_lt hlt))
theorem yx{prog:Program}{w:World}{A:Around}{bs:List Bool}{its:List Value}(e:its=bs.map Value.bool):TruthOf prog w A (fun i v=>its.toArray[i]?=some v) (fun i=>bs.getD i false):=fun i v s Q E hv hq=>by
 have hv':its[i]?=some v:=by simpa using hv
 rw[e,List.getElem?_map]at hv';obtain⟨b,hb,rfl⟩:=Option.map_eq_some_iff.mp hv';have hg:bs.getD i false=b:=by rw[List.getD_eq_getElem?_getD,hb]<;>rfl
 have hq':Q (bs.getD i false) s:=hq;rw[hg]at hq';exact wpAny_truthy_bool hq'
theorem u4:∀bs:List Bool,(List.range bs.length).all (fun i=>bs.getD i false)=bs.all id
 |[]=>rfl
 |b::bs=>by rw[List.length_cons,List.range_succ_eq_map,List.all_cons,List.all_map,List.all_cons,<-u4 bs];all_goals rfl
section
variable{X:Cx}
def Gi(K:W.Frag):List V->Hp->VK->Prop:=fun vs H Q=>∃(a:Addr)(bs:List Bool),vs=[V.ref a]/\aV K H a (bs.map V.bl)/\Q (.bl (bs.all id)) H
theorem Fp (hc:X.calm=true):m7 X (.builtin "all") (Gi X.K):=by
 intro pins s σ H vs us Q I r h;obtain⟨a,bs,rfl,hs,q⟩:=h;obtain⟨its,rv,hl,_⟩:=I.list hs;rw[aQ.ref1 r];have hb:=rv.bls;refine call_all_walk (CY hl.isList fun s₂ e2 st hne=>?_);subst e2;refine⟨_,_,_,_,_,_,_,rfl,Walks.list (A:=X.A.in1) (I.ok.hd hc) _ a hne its.toArray,st,yx hb,fun h' tk hk=>?_⟩;refine⟨.bl _,H,I.kept fun b o eo=>hk b o (fun hmem=>?_) (Heap.get?_push_of_some _ eo),?_,q⟩
 ·rcases List.mem_cons.mp hmem with e1|hmem
  ·exact absurd (e1▸Heap.lt_size eo) (Nat.lt_irrefl _)
  ·cases hmem
 ·show Value.bool _=Value.bool _;rw[<-u4,hb,List.size_toArray,List.length_map]
end
mutual
inductive Dp(K:W.Frag)(H:Hp):V->PyData->Prop
 |non:Dp K H .non .none
 |bl (b:Bool):Dp K H (.bl b) (.bool b)
 |int (i:Int):Dp K H (.int i) (.int i)
 |str (x:Str):Dp K H (.str x) (.str x)
 |lst {a:Addr} {xs:List V} {ds:List PyData}:aV K H a xs->rH K H xs ds->Dp K H (.ref a) (.list ds)
 |tup {a:Addr} {xs:List V} {ds:List PyData}:i6 K H a xs->rH K H xs ds->Dp K H (.ref a) (.tuple ds)
inductive rH(K:W.Frag)(H:Hp):List V->List PyData->Prop
 |nil:rH K H [] []
 |cons {v:V} {vs:List V} {d:PyData} {ds:List PyData}:Dp K H v d->rH K H vs ds->rH K H (v::vs) (d::ds)
end
section
variable{X:Cx}{pins:List (Addr×Obj)}{σ:St}{H:Hp}{s:Shared}
mutual
theorem Dp.reads(I:aH X pins σ H s):∀(d:PyData)(v:V)(u:Value),Dp X.K H v d->br v u->∃as,Reads s.heap u d as
 |.none,_,_,h,r=>by cases h;cases r;exact⟨_,Reads.none⟩
 |.bool b,_,_,h,r=>by cases h;cases r;exact⟨_,Reads.bool b⟩
 |.int i,_,_,h,r=>by cases h;obtain⟨t,rfl⟩:=r;exact⟨_,Reads.int i t⟩
 |.str x,_,_,h,r=>by cases h;obtain⟨t,rfl⟩:=r;exact⟨_,Reads.str x t⟩
 |.list ds,_,_,h,r=>by
  cases h with
  |lst hs ha=>cases r;obtain⟨its,rv,⟨o,n,ho,hc,_,hd⟩,_⟩:=I.list hs;obtain⟨as,hr⟩:=Dp.readsAll I ds _ its ha rv;exact⟨_,Reads.list ho hc hd hr⟩
 |.tuple ds,_,_,h,r=>by
  cases h with
  |tup hs ha=>cases r;obtain⟨its,rv,⟨o,ho,hc,n,hd⟩,_⟩:=I.tuple hs;obtain⟨as,hr⟩:=Dp.readsAll I ds _ its ha rv;exact⟨_,Reads.tuple ho hc hd hr⟩
 |.dict _,_,_,h,_=>by cases h
theorem Dp.readsAll(I:aH X pins σ H s):∀(ds:List PyData)(vs:List V)(us:List Value),rH X.K H vs ds->aQ vs us->∃as,ReadsAll s.heap us ds as
 |[],_,_,h,r=>by cases h;cases r;exact⟨_,ReadsAll.nil⟩
 |d::ds,_,_,h,r=>by
  cases h with
  |cons h1 h2=>
   cases r with
   |cons r1 r2=>obtain⟨as,q1⟩:=Dp.reads I d _ _ h1 r1;obtain⟨bs,q2⟩:=Dp.readsAll I ds _ _ h2 r2;exact⟨_,ReadsAll.cons q1 q2⟩
end
end
section
variable{X:Cx}
def Fk(K:W.Frag):R2:=fun x y H Q=>∃d e,Dp K H x d/\Dp K H y e/\SeqAt.shaped d=true/\SeqAt.shaped e=true/\Q (.bl (!PyData.eqv d e)) H
theorem E6(hu:X.A.units+64<cLine):om X (compareOp .NotEq) (Fk X.K):=by intro pins s σ H x y v u Q I rx ry h;obtain⟨d,e,hd,he,sd,se,q⟩:=h;obtain⟨as,r1⟩:=Dp.reads I d x v hd rx;obtain⟨bs,r2⟩:=Dp.reads I e y u he ry;exact SeqAt.compareNe_shaped r1 r2 sd se hu ⟨.bl _,H,I,rfl,q⟩
end
end L2
namespace L2
open PySem PySem.Spec PyProof.Rows
abbrev Cq(h:Heap)(c:Addr)(v:Option Value):Prop:=h.IsCell c v
def Ht(scope sc:Scope):Scope:={ scope with names:=scope.names.map fun(n,k)=>if(k==.free&&sc.kind==.function&&sc.names.lookup n==some .cell)then(n,.cell)else(n,k) }
def bV(cells:List (Str×Addr)):List (Str×NameKind)->List (Str×Addr)->List (Str×Addr)
 |[],acc=>acc
 |(n,k)::r,acc=>if k==.free then bV cells r ((n,(cells.lookup n).getD 0)::acc)else bV cells r acc
theorem o6(env:Env)(f:Str×NameKind->List (Str×Addr)->Sem (ForInStep (List (Str×Addr)))) (hf:∀n k c,f (n,k) c=if k==.free then(do let a <-cellOf env n;pure (.yield ((n,a)::c)))else pure (.yield c)) :∀(names:List (Str×NameKind))(acc:List (Str×Addr)),(∀y∈names,y.2=.free->∃c,env.cells.lookup y.1=some c)->forIn names acc f=pure (bV env.cells names acc)
 |[],acc,_=>by rw[List.forIn_nil];rfl
 |(n,k)::r,acc,h=>by
  rw[List.forIn_cons,hf];have ih:=fun acc=>o6 env f hf r acc fun y hy=>h y (List.mem_cons_of_mem _ hy);unfold bV;by_cases hk:(k==NameKind.free)=true
  ·rw[if_pos hk,if_pos hk];obtain⟨c,hc⟩:=h (n,k) List.mem_cons_self (by simpa using hk);have e:cellOf env n=pure c:=by unfold cellOf;rw[hc]
   rw[e];have e2:(env.cells.lookup n).getD 0=c:=by rw[hc];rfl
   rw[e2];exact ih _
  ·rw[if_neg hk,if_neg hk];exact ih _
theorem yW{scope:Scope}{env:Env}(h:∀y∈scope.names,y.2=.free->∃c,env.cells.lookup y.1=some c):closureFor scope env=pure (bV env.cells scope.names []):=by simp only[closureFor];rw[o6 env _ (fun n k c=>rfl) scope.names [] h];rfl
theorem fJ{α:Type}:∀{l:List (Str×α)}{n:Str}{c:α},(n,c)∈l->∃c',l.lookup n=some c'
 |(k,v)::r,n,c,h=>by
  rw[List.lookup_cons];cases hb:n==k with
  |true=>exact⟨_,rfl⟩
  |false=>
   rcases List.mem_cons.mp h with e|h
   ·cases e;simp at hb
   ·exact fJ h
theorem iR{cells:List (Str×Addr)}:∀{names:List (Str×NameKind)}{acc:List (Str×Addr)}{n:Str}{c:Addr},(n,c)∈bV cells names acc->(n,c)∈acc\/((n,.free)∈names/\c=(cells.lookup n).getD 0)
 |[],_,_,_,h=>.inl h
 |(m,k)::r,acc,n,c,h=>by
  unfold bV at h;split at h
  ·rename_i hk;have hk:k=.free:=by simpa using hk
   rcases iR h with h|⟨h1,h2⟩
   ·rcases List.mem_cons.mp h with e|h
    ·cases e;exact .inr ⟨hk▸List.mem_cons_self,rfl⟩
    ·exact .inl h
   ·exact .inr ⟨List.mem_cons_of_mem _ h1,h2⟩
  ·rcases iR h with h|⟨h1,h2⟩
   ·exact .inl h
   ·exact .inr ⟨List.mem_cons_of_mem _ h1,h2⟩
theorem kq{cells:List (Str×Addr)}:∀{names:List (Str×NameKind)}{acc:List (Str×Addr)}{p:Str×Addr},p∈acc->p∈bV cells names acc
 |[],_,_,h=>h
 |(m,k)::r,acc,p,h=>by
  unfold bV;split
  ·exact kq (List.mem_cons_of_mem _ h)
  ·exact kq h
theorem kx{cells:List (Str×Addr)}:∀{names:List (Str×NameKind)}{acc:List (Str×Addr)}{n:Str},(n,.free)∈names->(n,(cells.lookup n).getD 0)∈bV cells names acc
 |(m,k)::r,acc,n,h=>by
  unfold bV;rcases List.mem_cons.mp h with e|h
  ·cases e;exact kq List.mem_cons_self
  ·split
   ·exact kx h
   ·exact kx h
theorem jq:∀{names:List (Str×NameKind)}{h:Heap}{acc:List (Str×Addr)}{x:Str}{c:Addr},(x,c)∈cellsFrom h.objs.size names acc->(x,c)∈acc\/((x,.cell)∈names/\h.objs.size<=c/\Cq (pushCells h names) c none)
 |[],_,_,_,_,h=>.inl h
 |(n,k)::r,h,acc,x,c,hm=>by
  unfold cellsFrom at hm;unfold pushCells;split at hm
  ·rename_i hk;rw[if_pos hk];have hk:k=.cell:=by simpa using hk
   rw[<-Heap.size_push h { cls:=.type "cell",data:=.cell none }]at hm;rcases jq hm with hm|⟨h1,h2,h3⟩
   ·rcases List.mem_cons.mp hm with e|hm
    ·cases e;exact .inr ⟨hk▸List.mem_cons_self,Nat.le_refl _,_,pushCells_keeps r _ _ _ (Heap.get?_push_size _ rfl),rfl⟩
    ·exact .inl hm
   ·rw[Heap.size_push]at h2;exact .inr ⟨List.mem_cons_of_mem _ h1,Nat.le_of_succ_le h2,h3⟩
  ·rename_i hk;rw[if_neg hk];rcases jq hm with hm|⟨h1,h2,h3⟩
   ·exact .inl hm
   ·exact .inr ⟨List.mem_cons_of_mem _ h1,h2,h3⟩
theorem mr:∀{names:List (Str×NameKind)}{n:Nat}{acc:List (Str×Addr)}{p:Str×Addr},p∈acc->p∈cellsFrom n names acc
 |[],_,_,_,h=>h
 |(m,k)::r,n,acc,p,h=>by
  unfold cellsFrom;split
  ·exact mr (List.mem_cons_of_mem _ h)
  ·exact mr h
theorem pU:∀{names:List (Str×NameKind)}{n:Nat}{acc:List (Str×Addr)}{x:Str},(x,.cell)∈names->∃c,(x,c)∈cellsFrom n names acc
 |(m,k)::r,n,acc,x,h=>by
  unfold cellsFrom;rcases List.mem_cons.mp h with e|h
  ·cases e;exact⟨n,mr List.mem_cons_self⟩
  ·split
   ·exact pU h
   ·exact pU h
theorem pL:∀{names:List (Str×NameKind)}{h:Heap}{acc:List (Str×Addr)}{x y:Str}{c:Addr},(∀p∈acc,p.2<h.objs.size)->(∀x y c,(x,c)∈acc->(y,c)∈acc->x=y)->(x,c)∈cellsFrom h.objs.size names acc->(y,c)∈cellsFrom h.objs.size names acc->x=y
 |[],_,_,_,_,_,_,hi,h1,h2=>hi _ _ _ h1 h2
 |(n,k)::r,h,acc,x,y,c,hl,hi,h1,h2=>by
  unfold cellsFrom at h1 h2;split at h1
  ·rename_i hk;rw[if_pos hk]at h2;rw[<-Heap.size_push h { cls:=.type "cell",data:=.cell none }]at h1 h2;refine pL (h:=h.push _) (fun p hp=>?_) (fun x y c a b=>?_) h1 h2
   ·rw[Heap.size_push];rcases List.mem_cons.mp hp with rfl|hp
    ·exact Nat.lt_succ_self _
    ·exact Nat.lt_succ_of_lt (hl p hp)
   ·rcases List.mem_cons.mp a with e|a<;>rcases List.mem_cons.mp b with e'|b
    ·cases e;cases e';rfl
    ·cases e;exact absurd (hl _ b) (Nat.lt_irrefl _)
    ·cases e';exact absurd (hl _ a) (Nat.lt_irrefl _)
    ·exact hi _ _ _ a b
  ·rename_i hk;rw[if_neg hk]at h2;exact pL hl hi h1 h2
theorem xA{M:Model}{A:Around}{E:Value->Shared->Prop}{s:Shared}{scope:Scope}{globals:Addr}{closure:List (Str×Addr)}{qual:Str}{func:Option Addr}{code:Value}{around:Env}{builtins:Addr}{Q:Env->Shared->Prop} (h:Q (newEnv scope s.heap.objs.size globals (cellsFrom (s.heap.objs.size+1) scope.names closure) qual func code (some around) builtins) { s with heap:=pushCells (s.heap.push { cls:=.type "dict",data:=.dict #[] }) scope.names }) :wpAny M A (newFunctionEnv scope globals closure [] qual func code (some around) builtins) Q E s:=by simp only[newFunctionEnv,Option.isSome_some,if_true];refine wpAny_bind (wpAny_alloc ?_);refine wpAny_bind (wpAny_layCells _ (fun n k c=>rfl) scope.names closure _ _ ?_);rw[show({ s with heap:=s.heap.push { cls:=.type "dict",data:=.dict #[] } }:Shared).heap.objs.size=s.heap.objs.size+1 from Heap.size_push ..];rw[List.forIn_nil];exact wpAny_bind (wpAny_pure (wpAny_pure h))
theorem lH{sc:Scope}:∀{names:List (Str×NameKind)}{x:Str}{k:NameKind},(names.map fun(n,k)=>if(k==NameKind.free&&sc.kind==.function&&sc.names.lookup n==some .cell)then(n,NameKind.cell)else(n,k)).lookup x=some k->∃k',names.lookup x=some k'/\(k=k'\/(k'=.free/\k=.cell))
 |[],_,_,h=>by simp at h
 |(n,k₀)::r,x,k,h=>by
  have ih:=@lH sc r x k;have h':List.lookup x ((if(k₀==NameKind.free&&sc.kind==.function&&sc.names.lookup n==some .cell)=true then(n,NameKind.cell)else(n,k₀))::(r.map _))=some k:=h;cases hx:x==n with
  |true=>
   simp only[List.lookup_cons,hx];by_cases hc:(k₀==NameKind.free&&sc.kind==.function&&sc.names.lookup n==some .cell)=true
   ·rw[if_pos hc]at h';simp only[List.lookup_cons,hx]at h';cases h';simp only[Bool.and_eq_true,beq_iff_eq]at hc;exact⟨k₀,rfl,.inr ⟨hc.1.1,rfl⟩⟩
   ·rw[if_neg hc]at h';simp only[List.lookup_cons,hx]at h';cases h';exact⟨_,rfl,.inl rfl⟩
  |false=>
   simp only[List.lookup_cons,hx];by_cases hc:(k₀==NameKind.free&&sc.kind==.function&&sc.names.lookup n==some .cell)=true
   ·rw[if_pos hc]at h';simp only[List.lookup_cons,hx]at h';exact ih h'
   ·rw[if_neg hc]at h';simp only[List.lookup_cons,hx]at h';exact ih h'
structure yq(N:List Str)(sc scope:Scope)(own:List (Str×Nat)):Prop where
 kind:scope.kind=.function
 uniq:∀y∈scope.names,scope.names.lookup y.1=some y.2
 ix:∀p∈own,N[p.2]?=some p.1
 free:∀y∈scope.names,y.2=.free->sc.names.lookup y.1=some .cell\/sc.names.lookup y.1=some .free
 own:∀y∈scope.names,y.2=.local\/y.2=.cell->y.1∈own.map (·.1)\/y.1∉N
def b8(σ:St):List Nat->St
 |[]=>σ
 |v::vs=>(b8 σ vs).set v none
theorem lA(σ:St):∀vs:List Nat,(b8 σ vs).length=σ.length
 |[]=>rfl
 |v::vs=>by unfold b8;rw[List.length_set,lA σ vs]
theorem pP{σ:St}{i:Nat}{x:V}:∀{vs:List Nat},(b8 σ vs)[i]?=some (some x)->σ[i]?=some (some x)/\i∉vs
 |[],h=>⟨h,by simp⟩
 |v::vs,h=>by
  unfold b8 at h;by_cases hi:v=i
  ·subst hi;by_cases hv:v<(b8 σ vs).length
   ·rw[List.getElem?_set_self hv]at h;cases h
   ·rw[List.getElem?_eq_none (by simpa using hv)]at h;cases h
  ·rw[List.getElem?_set_ne hi]at h;obtain⟨h1,h2⟩:=pP h;exact⟨h1,by simp only[List.mem_cons,not_or];exact⟨fun e=>hi e.symm,h2⟩⟩
abbrev Cx.blk(X:Cx)(s:Shared)(H:Hp)(scope:Scope)(cenv:Env)(fp:List Addr):Cx:={ X with s_0:=s,H_0:=H,env:=cenv,outer:=X.stack,ex:=fp,fn:=fun x=>scope.names.lookup x==some .cell,pn:=[],xe:=fun _ _=>False }
section
variable{X:Cx}{pins:List (Addr×Obj)}{σ:St}{H:Hp}{s:Shared}
theorem x6{scope:Scope}{own:List (Str×Nat)}{fp:List Addr}(I:aH X pins σ H s)(ok:yq X.N X.env.scope scope own)(hN:X.N.Nodup)(hfp:∀b∈fp,qJ X pins H b/\b<s.heap.objs.size):aH (X.blk s H scope (compEnvC scope (cellsFrom (s.heap.objs.size+1) scope.names (bV X.env.cells scope.names [])) s.heap.objs.size X.env) fp) [] (b8 σ (own.map (·.2))) H { s with heap:=pushCells (s.heap.push { cls:=.type "dict",data:=.dict #[] }) scope.names }:=by
 have hfree:∀y∈scope.names,y.2=.free->∃c,X.env.cells.lookup y.1=some c:=fun y hy e=>by
  rcases ok.free y hy e with k|k
  ·exact I.ok.has _ (.inl k)
  ·exact I.ok.has _ (.inr k)
 generalize hcenv:compEnvC scope (cellsFrom (s.heap.objs.size+1) scope.names (bV X.env.cells scope.names [])) s.heap.objs.size X.env=cenv;have kp:∀b o,s.heap.get? b=some o->(pushCells (s.heap.push { cls:=.type "dict",data:=.dict #[] }) scope.names).get? b=some o:=fun b o e=>pushCells_keeps _ _ _ _ (Heap.get?_push_of_some _ e);have hL:cenv.locals=s.heap.objs.size:=by rw[<-hcenv];rfl
 have hcl:cenv.cells=cellsFrom (s.heap.objs.size+1) scope.names (bV X.env.cells scope.names []):=by rw[<-hcenv];rfl
 have hsc:cenv.scope=Ht scope X.env.scope:=by rw[<-hcenv];rfl
 rw[<-Heap.size_push s.heap { cls:=.type "dict",data:=.dict #[] }]at hcl
 have cm:∀{y c},(y,c)∈bV X.env.cells scope.names []->X.env.cells.lookup y=some c/\c<s.heap.objs.size:=fun{y c}hm=>by
  rcases iR hm with hm|⟨h1,rfl⟩
  ·cases hm
  ·obtain⟨c,hc⟩:=hfree _ h1 rfl;rw[hc];obtain⟨w,z⟩:=I.cell _ _ hc;exact⟨rfl,z.lt⟩
 have mem:∀{y c},cenv.cells.lookup y=some c->(X.env.cells.lookup y=some c/\c<s.heap.objs.size)\/(s.heap.objs.size+1<=c/\Cq (pushCells (s.heap.push { cls:=.type "dict",data:=.dict #[] }) scope.names) c none):=fun{y c} e=>by
  rw[hcl]at e;rcases jq (PySem.mem_of_lookup e)with hm|⟨_,h2,h3⟩
  ·exact .inl (cm hm)
  ·rw[Heap.size_push]at h2;exact .inr ⟨h2,h3⟩
 have look:∀{y},scope.names.lookup y=some .free->∃c,cenv.cells.lookup y=some c/\X.env.cells.lookup y=some c:=fun{y}hl=>by
  have hy:(y,NameKind.free)∈scope.names:=PySem.mem_of_lookup hl;obtain⟨c',e'⟩:=fJ (mr (names:=scope.names) (n:=(s.heap.push { cls:=.type "dict",data:=.dict #[] }).objs.size) (kx (cells:=X.env.cells) (acc:=[]) hy));rw[<-hcl]at e';refine⟨c',e',?_⟩;rw[hcl]at e';rcases jq (PySem.mem_of_lookup e')with hm|⟨h1,_,_⟩
  ·exact(cm hm).1
  ·have:=ok.uniq _ h1;rw[hl]at this;cases this
 have okB:(X.blk s H scope cenv fp).Ok:=by
  refine⟨I.ok.mod,by show cenv.scope.kind=_;rw[hsc];exact ok.kind,by show cenv.globals=_;rw[<-hcenv];exact I.ok.glob,by show cenv.builtins=_;rw[<-hcenv];exact I.ok.blt,by show s.heap.objs.size<=cenv.locals;rw[hL];exact Nat.le_refl _,fun y z c e1 e2=>?_,fun y hy=>?_,fun y c z e=>?_,I.ok.hd,I.ok.frames,.inl rfl,fun b hb=>⟨?_,fun y c e z=>?_⟩,I.bs,Nat.le_trans I.ok.bsz I.sz,fun b o e hb=>?_,fun b hb z=>?_,I.stack,I.stkFree⟩
  ·have e1:cenv.cells.lookup y=some c:=e1;have e2:cenv.cells.lookup z=some c:=e2;rw[hcl]at e1 e2;refine pL (fun p hp=>?_) (fun y z c a b=>I.ok.inj y z c (cm a).1 (cm b).1) (PySem.mem_of_lookup e1) (PySem.mem_of_lookup e2);rw[Heap.size_push];exact Nat.lt_succ_of_lt (cm (y:=p.1) (c:=p.2) hp).2
  ·show ∃c,cenv.cells.lookup y=some c
   have key:∀k,cenv.kindOf y=some k->(k=.cell\/k=.free)->∃c,cenv.cells.lookup y=some c:=fun k hk hk'=>by
    unfold Env.kindOf at hk;rw[hsc]at hk;obtain⟨k',e,r⟩:=lH hk
    have:k'=.cell\/k'=.free:=by
     rcases r with rfl|⟨rfl,_⟩
     ·exact hk'
     ·exact .inr rfl
    rcases this with rfl|rfl
    ·obtain⟨c,hm⟩:=pU (n:=(s.heap.push { cls:=.type "dict",data:=.dict #[] }).objs.size) (acc:=bV X.env.cells scope.names []) (PySem.mem_of_lookup e);obtain⟨c',e'⟩:=fJ hm;exact⟨c',by rw[hcl];exact e'⟩
    ·obtain⟨c,h1,_⟩:=look e;exact⟨c,h1⟩
   rcases hy with hy|hy
   ·exact key _ hy (.inl rfl)
   ·exact key _ hy (.inr rfl)
  ·have z:(scope.names.lookup y==some NameKind.cell)=true:=z;have z:scope.names.lookup y=some .cell:=by simpa using z
   have e:cenv.cells.lookup y=some c:=e;rw[hcl]at e;rcases jq (PySem.mem_of_lookup e)with hm|⟨_,h2,_⟩
   ·rcases iR hm with hm|⟨h1,_⟩
    ·cases hm
    ·have q:=ok.uniq _ h1;rw[z]at q;cases q
   ·rw[Heap.size_push]at h2;exact Nat.le_of_succ_le h2
  ·show b≠cenv.locals;rw[hL];exact Nat.ne_of_lt (hfp b hb).2
  ·have e:cenv.cells.lookup y=some c:=e;rcases mem e with⟨h1,_⟩|⟨h1,_⟩
   ·exact(hfp b hb).1.2.2.2.2.1 y c h1 z
   ·have h2:s.heap.objs.size+1<=b:=by rw[<-z];exact h1
    exact absurd (Nat.lt_of_lt_of_le (hfp b hb).2 (Nat.le_of_succ_le h2)) (Nat.lt_irrefl _)
  ·rcases(hfp b hb).1.2.2.2.1 with z|z
   ·exact I.ok.noex b o e z
   ·exact absurd (Nat.lt_of_lt_of_le (Heap.lt_size e) (Nat.le_trans I.ok.bsz z)) (Nat.lt_irrefl _)
  ·rcases List.mem_cons.mp (I.stkSub b z)with z|z
   ·exact(hfp b hb).1.2.1 z
   ·exact(hfp b hb).1.2.2.1 z
 refine⟨okB,rfl,I.bare,Un.kept kp,⟨fun _=>none,?_,fun i y av e1 e2 e3=>?_⟩,fun y c e=>?_,?_,fun y c e=>?_,fun p hp=>?_,I.hok.kept kp,by rw[lA];exact I.len⟩
 ·show Heap.Ns _ cenv.locals _;rw[hL];exact Heap.Ns.keeps (Heap.Ns.new ..) fun b o e=>pushCells_keeps _ _ _ _ e
 ·obtain⟨e2,hne⟩:=pP e2
  have hfr:scope.names.lookup y=some .free/\(cenv.kindOf y=some .cell\/cenv.kindOf y=some .free):=by
   have key:∀k,cenv.scope.names.lookup y=some k->k=.local\/k=.cell\/k=.free->scope.names.lookup y=some .free/\(cenv.kindOf y=some .cell\/cenv.kindOf y=some .free):=fun k hk hk'=>by
    have hk0:=hk;rw[hsc]at hk;obtain⟨k',e,r⟩:=lH hk
    have no:¬(k'=.local\/k'=.cell):=fun hh=>by
     rcases ok.own _ (PySem.mem_of_lookup e) hh with e'|e'
     ·obtain⟨p,hp,hpy⟩:=List.mem_map.mp e';have e3:=ok.ix p hp;have:p.1=y:=hpy;rw[this]at e3;exact hne (List.mem_map.mpr ⟨p,hp,r6 hN e3 e1⟩)
     ·exact e' (List.mem_of_getElem? e1)
    rcases r with rfl|⟨rfl,rfl⟩
    ·rcases hk' with rfl|rfl|rfl
     ·exact absurd (.inl rfl) no
     ·exact absurd (.inr rfl) no
     ·exact⟨e,.inr hk0⟩
    ·exact⟨e,.inl hk0⟩
   have e3:F7 cenv.scope y:=e3;rcases e3 with e3|e3|e3
   ·exact key _ e3 (.inl rfl)
   ·exact key _ e3 (.inr (.inl rfl))
   ·exact key _ e3 (.inr (.inr rfl))
  obtain⟨m,hn,hl⟩:=I.loc;have hvis:F7 X.env.scope y:=(ok.free _ (PySem.mem_of_lookup hfr.1) rfl).elim (fun k=>.inr (.inl k)) (fun k=>.inr (.inr k));obtain⟨w,r,q⟩:=hl i y av e1 e2 hvis;refine⟨w,r,.inr ⟨hfr.2,?_⟩⟩;obtain⟨c,h1,h2⟩:=look hfr.1;rcases q with⟨k,_⟩|⟨_,c',e',z⟩
  ·have k:X.env.scope.names.lookup y=some .local:=k;rcases ok.free _ (PySem.mem_of_lookup hfr.1) rfl with k'|k'<;>rw[show X.env.scope.names.lookup y=_ from k']at k<;>cases k
  ·rw[h2]at e';cases e';exact⟨c,h1,z.keeps kp⟩
 ·have e:cenv.cells.lookup y=some c:=e;rcases mem e with⟨h1,_⟩|⟨_,z⟩
  ·obtain⟨w,z⟩:=I.cell y c h1;exact⟨w,z.keeps kp⟩
  ·exact⟨_,z⟩
 ·show H cenv.locals=none;rw[hL];exact I.hok.fresh (Nat.le_refl _)
 ·have e:cenv.cells.lookup y=some c:=e;rcases mem e with⟨h1,_⟩|⟨h1,_⟩
  ·exact I.freeC y c h1
  ·exact I.hok.fresh (Nat.le_of_succ_le h1)
 ·exact absurd (show p∈([]:List (Addr×Obj))++[]from hp) (by simp)
theorem FO{E:Value->Shared->Prop}{D:Addr}{xs:List V}{y:V}{v:Value}{Q:Value->Shared->Prop}(I:aH X pins σ H s)(hD:H D=some (.lst xs))(hz:xs.length<sizeLine)(r:br y v) (h:∀s',aH X pins σ (aI H D (.lst (xs++[y]))) s'->Q .none s'):wpAny (model X.prog X.w) X.A (call (.builtin "list.append") [.ref D,v]) Q E s:=by obtain⟨hz',its,n,ri,e⟩:=I.hok D _ hD;have hl:=ri.length;refine append_at (hsz:=by rw[List.size_toArray];omega) e fun h' sb ho'=>?_;refine h { s with heap:=h' } (I.write (t':=s.toks) (by rw[hD];trivial) (.inl rfl) (fun b u hb q=>(sb.2 b hb).trans q) ⟨_,ho'⟩ ⟨by rw[List.length_append];exact hz,its++[v],n+1,ri.append (.cons r .nil),?_⟩);rw[ho'];simp
def Gj(X:Cx)(ifs:List Expr)(t:TT):Prop:=∀(pins:List (Addr×Obj))(s:Shared)(σ:St)(H:Hp)(Q:Bool->Hp->Prop),aH X pins σ H s->t σ H Q->wpAny (model X.prog X.w) X.A (forIn ifs true fun c r=>if r=true then do let ok <-isTrue c X.env (eval c X.env);pure (ForInStep.yield ok)else pure (ForInStep.yield r)) (TP X pins σ Q) X.xe s
def DX:TT:=fun _ H Q=>Q true H
theorem c_:Gj X [] DX:=fun _ _ _ H _ I h=>wpAny_tests_nil ⟨H,I,h⟩
theorem l_{c:Expr}{t:TT}(h:PT X c t):Gj X [c] t:=fun pins s σ H Q I hw=>wpAny_tests_one (h pins s σ H Q I hw)
end
theorem Bv{α:Type}{t:Sem α}{Q Q':α->Shared->Prop}{M:Model}{A:Around}{E:Value->Shared->Prop}{s:Shared}(h:wpAny M A t Q (fun _ _=>False) s)(hQ:∀a s,Q a s->Q' a s):wpAny M A t Q' E s:=wpAny_mono h hQ fun _ _ z=>False.elim z
theorem vP{prog:Program}{w:World}{A:Around}{R:Result->Shared->Prop}{s:Shared}{elt target iter:Expr}{ifs:List Expr}{scope:Scope}{pos:Pos}{it acc:Value}{env:Env}(I:Nat->Shared->Prop)
  (turn:∀n s,I n s->wpAny (model prog w) A (pyNext it) (fun r s₁=>match r with
   |none=>R (.ok .next) s₁
   |some v=>wpAny (model prog w) A (letOwnedTupleGo target it v) (fun _ s₁'=>wpAny (model prog w) A (assign target env v) (fun _ s₂=>
     wpAny (model prog w) A (forIn ifs true fun c r=>if r=true then do let ok <-isTrue c env (eval c env);pure (ForInStep.yield ok)else pure (ForInStep.yield r)) (fun ok s₃=>
      if ok=true then wpAny (model prog w) A (eval elt env) (fun x s₄=>
       wpAny (model prog w) A (call (.builtin "list.append") [acc,x]) (fun _ s₅=>∃m,m<n/\I m s₅) (notedBy (model prog w) A env fun e s'=>R (.error e) s') s₄) (notedBy (model prog w) A env fun e s'=>R (.error e) s') s₃
      else ∃m,m<n/\I m s₃) (notedBy (model prog w) A env fun e s'=>R (.error e) s') s₂) (notedBy (model prog w) A env fun e s'=>R (.error e) s') s₁') (notedBy (model prog w) A env fun e s'=>R (.error e) s') s₁) (notedBy (model prog w) A env fun e s'=>R (.error e) s') s)
  (n:Nat) (h:I n s) :
  codeAny (model prog w) A (.compLoop (.ListComp elt [⟨target,iter,ifs,0⟩] scope pos) 0 it acc env) R s:=by
 refine codeAny_loop rfl I (fun n s hI=>?_) n h
 show wpAny _ A ((compTurn (.ListComp elt [⟨target,iter,ifs,0⟩] scope pos) 0 it acc env).onRaise (fun x=>do noteFrame x env;theTreesLotGoes x)) _ _ s
 refine wpAny_noted ?_
 rw[compTurn_list]
 refine wpAny_bind (wpAny_standAt (wpAny_bind (wpAny_mono (turn n s hI) (fun r s₁ h₁=>?_) fun _ _ h'=>h')))
 cases r with
 |none=>exact wpAny_pure h₁
 |some v=>
  refine wpAny_bind (wpAny_mono h₁ (fun _ s₁' h₁'=>?_) fun _ _ h'=>h')
  refine wpAny_bind (wpAny_mono h₁' (fun _ s₂ h₂=>wpAny_bind (wpAny_mono h₂ (fun ok s₃ h₃=>?_) fun _ _ h'=>h')) fun _ _ h'=>h')
  cases ok with
  |false=>exact wpAny_pure ⟨rfl,h₃⟩
  |true=>
   exact wpAny_bind (wpAny_bind (wpAny_mono h₃ (fun x s₄ h₄=>wpAny_bind (wpAny_mono h₄ (fun _ s₅ h₅=>wpAny_pure (wpAny_pure ⟨rfl,h₅⟩)) fun _ _ h'=>h')) fun _ _ h'=>h'))
section
variable{X:Cx}
def Ah(wi:TI)(g:TG)(tt:TT)(te:TE)(vs:List Nat):TE:=fun σ H Q=>wi σ H fun J H1=>∀D,H1 D=none->∃W:Nat->Nat->Hp->Prop,(∃m,W 0 m (aI H1 D (.lst [])))/\∀i m H,W i m H->(J.stop i H/\Q (.ref D) H)\/(J.go i H/\∃Nx:Hp->Prop,(∀H',Nx H'->∃m',m'<m/\W (i+1) m' H')/\∀x H',J.yld i H x H'->g x (b8 σ vs) H' fun σ2 H2=>b8 σ2 vs=b8 σ vs/\tt σ2 H2 fun b H3=>if b=true then te σ2 H3 fun y H4=>∃acc,H4 D=some (.lst acc)/\acc.length<sizeLine/\Nx (aI H4 D (.lst (acc++[y])))else Nx H3)
theorem AA{pins:List (Addr×Obj)}{s:Shared}{σ:St}{H:Hp}{Q:VK}{elt tg iter:Expr}{ifs:List Expr}{scope:Scope}{own:List (Str×Nat)}{pos pos':Pos}{wi:TI}{g:TG}{tt:TT}{te:TE}{use:Option (Value->Sem Unit)}{Qf:Value->Shared->Prop}
  (hc:X.calm=true) (hN:X.N.Nodup) (I:aH X pins σ H s) (hi:PI X tg iter wi) (ok:yq X.N X.env.scope scope own)
  (hg:∀(s:Shared)(H:Hp)(C:Addr)(cl:List (Str×Addr))(fp:List Addr),PG (X.blk s H scope (compEnvC scope cl C X.env) fp) tg g) (ht:∀(s:Shared)(H:Hp)(C:Addr)(cl:List (Str×Addr))(fp:List Addr),Gj (X.blk s H scope (compEnvC scope cl C X.env) fp) ifs tt)
  (he:∀(s:Shared)(H:Hp)(C:Addr)(cl:List (Str×Addr))(fp:List Addr),PE (X.blk s H scope (compEnvC scope cl C X.env) fp) elt te) (hs:∀x,foldedSetIterable iter X.env x=pure x)
  (h:Ah wi g tt te (own.map (·.2)) σ H Q)
  (hRR:∀D C s' m H',aH X pins σ H' s'->Q (.ref D) H'->s'.heap.Ns C m->qJ X pins H' C->compPost (model X.prog X.w) X.A X.xe use Qf (.ref D) C (.ok .next) s') :
  wpAny (model X.prog X.w) X.A (comprehension (.ListComp elt [⟨tg,iter,ifs,0⟩] scope pos) scope X.env pos' (newList []) false (eval iter X.env) use) Qf X.xe s:=by
 have hfree:∀y∈scope.names,y.2=.free->∃c,X.env.cells.lookup y.1=some c:=fun y hy e=>by
  rcases ok.free y hy e with k|k
  ·exact I.ok.has _ (.inl k)
  ·exact I.ok.has _ (.inr k)
 refine wpAny_comprehension_free (use:=use) rfl hs (yW hfree) ok.kind (fun y hy e=>by rw[ok.uniq y hy,e])
  (cA (hi pins s σ H _ I h) fun xv s1 hx=>cA hx fun itv s2 h2=>?_)
 obtain⟨it,fp,tn,J,H2,e,I2,T,st2,f2,q⟩:=h2
 subst e
 refine wpAny_newObj_type (xA ?_) (by show 0<=sizeLine;decide)
 generalize hD:s2.heap.objs.size=D
 have hDn:H2 D=none:=I2.hok.fresh (Nat.le_of_eq hD)
 obtain⟨W,⟨m0,w0⟩,turn⟩:=q D hDn
 generalize hs3:({ s2 with heap:=s2.heap.push { cls:=.type "list",data:=.seq ([]:List Value).toArray } }:Shared)=s3
 have I3:aH X pins σ (aI H2 D (.lst [])) s3:=by
  rw[<-hs3]
  refine I2.laid (t':=s2.toks) (fun b o e=>Heap.get?_push_of_some _ e) (Nat.le_of_eq hD) ⟨Nat.zero_le _,[],0,.nil,?_⟩
  rw[<-hD]
  exact Heap.get?_push_size _ rfl
 have h3:s3.heap=s2.heap.push { cls:=.type "list",data:=.seq ([]:List Value).toArray }:=by rw[<-hs3]
 have sz:∀b∈fp,b<s2.heap.objs.size:=fun b hb=>by
  obtain⟨o,e,_⟩:=T.obj _ _ st2 b hb
  exact Heap.lt_size e
 have f3:∀b∈fp,qJ X pins (aI H2 D (.lst [])) b/\b<s3.heap.objs.size:=fun b hb=>by
  have hlt:=sz b hb
  refine⟨⟨?_,(f2 b hb).2⟩,by rw[h3,Heap.size_push];exact Nat.lt_succ_of_lt hlt⟩
  rw[ai (by rw[<-hD];exact Nat.ne_of_lt hlt)]
  exact(f2 b hb).1
 have st3:tn 0 s3.heap:=T.keep _ _ _ st2 fun b _ o e=>by rw[h3];exact Heap.get?_push_of_some _ e
 have I4:=x6 I3 ok hN f3
 have pg:=hg s3 (aI H2 D (.lst [])) s3.heap.objs.size (cellsFrom (s3.heap.objs.size+1) scope.names (bV X.env.cells scope.names [])) fp
 have pt:=ht s3 (aI H2 D (.lst [])) s3.heap.objs.size (cellsFrom (s3.heap.objs.size+1) scope.names (bV X.env.cells scope.names [])) fp
 have pe:=he s3 (aI H2 D (.lst [])) s3.heap.objs.size (cellsFrom (s3.heap.objs.size+1) scope.names (bV X.env.cells scope.names [])) fp
 show codeAny _ _ (.compStart (.ListComp elt [⟨tg,iter,ifs,0⟩] scope pos) 0 (.ref it) (.ref D) (compEnvC scope (cellsFrom (s3.heap.objs.size+1) scope.names (bV X.env.cells scope.names [])) s3.heap.objs.size X.env)) (compPost (model X.prog X.w) X.A X.xe use Qf (.ref D) s3.heap.objs.size) { s3 with heap:=pushCells (s3.heap.push { cls:=.type "dict",data:=.dict #[] }) scope.names }
 have nfp:∀b∈fp,(aI H2 D (.lst [])) b=none:=fun b hb=>(f3 b hb).1.1
 generalize hce:compEnvC scope (cellsFrom (s3.heap.objs.size+1) scope.names (bV X.env.cells scope.names [])) s3.heap.objs.size X.env=ce at I4 pg pt pe⊢
 have cL:ce.locals=s3.heap.objs.size:=by subst hce;rfl
 generalize hH3:aI H2 D (.lst [])=H3 at I3 I4 pg pt pe w0 nfp f3
 generalize hs4:({ s3 with heap:=pushCells (s3.heap.push { cls:=.type "dict",data:=.dict #[] }) scope.names }:Shared)=s4 at I4⊢
 have st4:tn 0 s4.heap:=T.keep _ _ _ st3 fun b _ o e=>by rw[<-hs4];exact pushCells_keeps _ _ _ _ (Heap.get?_push_of_some _ e)
 have stat:∀{σ':St}{H':Hp}{s':Shared},aH (X.blk s3 H3 scope ce fp) [] σ' H' s'->(∀b∈fp,H' b=none)->∀b∈fp,qJ (X.blk s3 H3 scope ce fp) [] H' b:=fun{σ' H' s'}I' hn b hb=>
  ⟨hn b hb,(I'.ok.exf b hb).1,I'.ok.exfs b hb,.inl hb,fun x c e=>(I'.ok.exf b hb).2 x c e,fun p hp=>absurd (show p∈([]:List (Addr×Obj))++[]from hp) (by simp)⟩
 have loop:codeAny (model X.prog X.w) X.A (.compLoop (.ListComp elt [⟨tg,iter,ifs,0⟩] scope pos) 0 (.ref it) (.ref D) ce) (compPost (model X.prog X.w) X.A X.xe use Qf (.ref D) s3.heap.objs.size) s4:=by
  refine vP (fun n s'=>∃i H',aH (X.blk s3 H3 scope ce fp) [] (b8 σ (own.map (·.2))) H' s'/\tn i s'.heap/\(∀b∈fp,H' b=none)/\W i n H') ?_ m0 ⟨0,H3,I4,st4,nfp,w0⟩
  rintro n s5 ⟨i,H5,I5,st5,n5,w5⟩
  rcases turn i n H5 w5 with⟨stop,qq⟩|⟨go,Nx,hNx,step⟩
  ·have td:=T.done (X.blk s3 H3 scope ce fp) rfl rfl rfl hc i [] s5 _ H5 (fun _ _=>False) I5 (stat I5 n5) st5 stop
   refine Bv td fun r s6⟨hr,I6⟩=>?_
   subst hr
   have I7:aH X pins σ H5 s6:=I3.call' (ch:=fp) I6.os I6.base I6.hok I6.bare fun b hb=>⟨(f3 b hb).1.2.2.2.1,(f3 b hb).1.2.1,(f3 b hb).1.2.2.2.2.1,(f3 b hb).1.2.2.2.2.2⟩
   have nC:H5 s3.heap.objs.size=none:=by
    have z:H5 ce.locals=none:=I6.free
    rw[cL]at z
    exact z
   obtain⟨m,hn,_⟩:=I6.loc
   have hn:s6.heap.Ns ce.locals m:=hn
   rw[cL]at hn
   exact hRR D s3.heap.objs.size s6 m H5 I7 qq hn (I3.fpOk (Nat.le_refl _) nC)
  ·have ti:=T.item (X.blk s3 H3 scope ce fp) rfl rfl rfl hc i [] s5 _ H5 (fun _ _=>False) I5 (stat I5 n5) st5 go
   refine Bv ti fun r s6⟨u,hr,h6⟩=>?_
   subst hr
   refine Bv h6 fun _ s7⟨x,H7,I7,r7,y7,st7,n7⟩=>?_
   have I7':=I7.pinned (stat I7 n7) (T.obj _ _ st7)
   refine Bv (pg _ s7 _ H7 x u _ I7' r7 (step x H7 y7)) fun _ s8⟨σ8,H8,I8,hw8,q8⟩=>?_
   refine Bv (pt _ s8 σ8 H8 _ I8 q8) fun b s9⟨H9,I9,q9⟩=>?_
   have fin:∀{s':Shared}{H':Hp},aH (X.blk s3 H3 scope ce fp) ([]++tD fp s7.heap) σ8 H' s'->Nx H'->∃m,m<n/\∃i H',aH (X.blk s3 H3 scope ce fp) [] (b8 σ (own.map (·.2))) H' s'/\tn i s'.heap/\(∀b∈fp,H' b=none)/\W i m H':=fun{s' H'}I' nx=>by
    obtain⟨m',hm,w'⟩:=hNx H' nx
    have pin':∀b∈fp,∀o,s7.heap.get? b=some o->s'.heap.get? b=some o/\H' b=none:=fun b hb o e=>
     let z:=I'.pin (b,o) (List.mem_append_right _ (List.mem_append_right _ (nB hb e)))
     ⟨z.1,z.2.1⟩
    have hl:(b8 σ (own.map (·.2))).length=σ8.length:=by rw[<-hw8,lA]
    refine⟨m',hm,i+1,H',(I'.unpinned (pins:=[])).weak hl (fun j v e=>?_),T.keep _ _ _ st7 fun b hb o e=>(pin' b hb o e).1,fun b hb=>?_,w'⟩
    ·rw[<-hw8]at e
     exact(pP e).1
    ·obtain⟨o,e,_⟩:=T.obj _ _ st7 b hb
     exact(pin' b hb o e).2
   cases b with
   |false=>
    simp only[Bool.false_eq_true,if_false]at q9⊢
    exact fin I9 q9
   |true=>
    simp only[if_true]at q9⊢
    refine Bv (pe _ s9 σ8 H9 _ I9 q9) fun z s10⟨yv,H10,I10,r10,acc,hD10,hz10,nx⟩=>?_
    exact FO (X:=X.blk s3 H3 scope ce fp) I10 hD10 hz10 r10 fun s11 I11=>fin I11 nx
 exact codeAny_compStart_list loop (T.self X.A 0 _ _ _ st4 loop)
theorem sO{elt tg iter:Expr}{ifs:List Expr}{scope:Scope}{own:List (Str×Nat)}{pos:Pos}{wi:TI}{g:TG}{tt:TT}{te:TE}(hc:X.calm=true)(hN:X.N.Nodup)(hi:PI X tg iter wi)(ok:yq X.N X.env.scope scope own) (hg:∀(s:Shared)(H:Hp)(C:Addr)(cl:List (Str×Addr))(fp:List Addr),PG (X.blk s H scope (compEnvC scope cl C X.env) fp) tg g) (ht:∀(s:Shared)(H:Hp)(C:Addr)(cl:List (Str×Addr))(fp:List Addr),Gj (X.blk s H scope (compEnvC scope cl C X.env) fp) ifs tt) (he:∀(s:Shared)(H:Hp)(C:Addr)(cl:List (Str×Addr))(fp:List Addr),PE (X.blk s H scope (compEnvC scope cl C X.env) fp) elt te) (hs:∀x,foldedSetIterable iter X.env x=pure x:=by intro _;rfl) :PE X (.ListComp elt [⟨tg,iter,ifs,0⟩] scope pos) (Ah wi g tt te (own.map (·.2))):=by
 intro pins s σ H Q I h;rw[eval_ListComp];refine AA hc hN I hi ok hg ht he hs h fun D C s' m H' I' q hn f=>⟨m,hn,fun h'' sb=>?_⟩
 obtain⟨f0,f1,f2,f3,f4,f5⟩:=f;exact⟨.ref D,H',I'.turned (t':=s'.toks) (fun b o hb e=>(sb.2 b hb).trans e) f0 f1 f3 f4 f5,rfl,q⟩
theorem cy{i:Nat}{y:Str}{py:Pos}{elt tg iter:Expr}{ifs:List Expr}{scope:Scope}{own:List (Str×Nat)}{pos spos:Pos}{wi:TI}{g:TG}{tt:TT}{te:TE}(hc:X.calm=true)(hN:X.N.Nodup)(hy:X.N[i]?=some y)(hyl:X.env.scope.names.lookup y=some .local) (hsw:swapsWith (.ListComp elt [⟨tg,iter,ifs,0⟩] scope pos) (some (.Name y py)) spos.line X.env=pure true) (hi:PI X tg iter wi) (ok:yq X.N X.env.scope scope own) (hg:∀(s:Shared)(H:Hp)(C:Addr)(cl:List (Str×Addr))(fp:List Addr),PG (X.blk s H scope (compEnvC scope cl C X.env) fp) tg g) (ht:∀(s:Shared)(H:Hp)(C:Addr)(cl:List (Str×Addr))(fp:List Addr),Gj (X.blk s H scope (compEnvC scope cl C X.env) fp) ifs tt) (he:∀(s:Shared)(H:Hp)(C:Addr)(cl:List (Str×Addr))(fp:List Addr),PE (X.blk s H scope (compEnvC scope cl C X.env) fp) elt te) (hs:∀x,foldedSetIterable iter X.env x=pure x:=by intro _;rfl) :PS X (.Assign [.Name y py] (.ListComp elt [⟨tg,iter,ifs,0⟩] scope pos) spos) (fV (Ah wi g tt te (own.map (·.2))) (bw i)):=by
 intro pins s σ H D I h;rw[exec_Assign_Name_used _ _ _ _ hsw];refine wpAny_bind (wpAny_standAt (wpAny_bind ?_));show wpAny _ X.A (do let _ <-comprehension (.ListComp elt [⟨tg,iter,ifs,0⟩] scope pos) scope X.env (firstIterPos [⟨tg,iter,ifs,0⟩] pos) (newList []) false (eval iter X.env) (some (assign (.Name y py) X.env))) _ _ s;have h:Ah wi g tt te (own.map (·.2)) σ H (fun x H1=>bw i x σ H1 D.nx):=h;refine wpAny_bind (cA (AA (Qf:=fun _ s'=>SP X pins D .next s') hc hN I hi ok hg ht he hs h fun L C s' m H' I' q hn f=>?_) fun _ s' hq=>wpAny_pure (wpAny_pure hq));show wpAny _ _ (assign (.Name y py) X.env (.ref L)) _ _ _;refine wpAny_assign_Name (uD (v:=V.ref L) I' hN hy (.inl hyl) rfl (fun s2 I2⟨a,sb,ha⟩=>?_) (.inr hyl));obtain⟨f0,f1,f2,f3,f4,f5⟩:=f
 have haC:C≠a:=by
  rcases ha with z|z
  ·rw[z];exact f1
  ·exact fun e=>f4 y a z e.symm
 refine⟨m,hn.sameBut sb haC,fun h3 sb3=>?_⟩;exact⟨_,H',I2.turned (t':=s2.toks) (fun b o hb e=>(sb3.2 b hb).trans e) f0 f1 f3 f4 f5,q⟩
theorem dr{elt:Expr}{gs:List Comprehension}{scope:Scope}{pos py:Pos}{y:Str}{l:Nat}{env:Env}(hk:env.scope.kind=.function)(hy:env.scope.names.lookup y=some .local)(hl:(py.line==pos.line)=true) (ha:(scope.names.any fun(n,k)=>n==y&&(k==.local||k==.cell))=false):swapsWith (.ListComp elt gs scope pos) (some (.Name y py)) l env=pure true:=by
 have ky:env.kindOf y=some .local:=hy;have hb:env.blockKind=.function:=by unfold Env.blockKind;rw[hk];rfl
 unfold swapsWith;simp only[hb,ky,ha,Expr.pos,hl];rfl
end
theorem BU{lo:Int}{n:Nat}{g:TG}{tt:TT}{te:TE}{vs:List Nat}{σ:St}{H1:Hp}{D:Addr}{Qd:Hp->Prop}(Pv:Nat->Hp->Prop)(h0:Pv 0 (aI H1 D (.lst []))) (hs:∀i H,i<n->Pv i H->g (.int (lo+i)) (b8 σ vs) H fun σ2 H2=>b8 σ2 vs=b8 σ vs/\tt σ2 H2 fun b H3=>
   if b=true then te σ2 H3 fun y H4=>∃acc,H4 D=some (.lst acc)/\acc.length<sizeLine/\Pv (i+1) (aI H4 D (.lst (acc++[y])))else Pv (i+1) H3) (hd:∀H,Pv n H->Qd H) :
  ∃W:Nat->Nat->Hp->Prop,(∃m,W 0 m (aI H1 D (.lst [])))/\∀i m H,W i m H->((BV lo n).stop i H/\Qd H)\/((BV lo n).go i H/\∃Nx:Hp->Prop,(∀H',Nx H'->∃m',m'<m/\W (i+1) m' H')/\∀x H',(BV lo n).yld i H x H'->g x (b8 σ vs) H' fun σ2 H2=>b8 σ2 vs=b8 σ vs/\tt σ2 H2 fun b H3=>if b=true then te σ2 H3 fun y H4=>∃acc,H4 D=some (.lst acc)/\acc.length<sizeLine/\Nx (aI H4 D (.lst (acc++[y])))else Nx H3):=by
 refine⟨fun i m H=>m=n-i/\i<=n/\Pv i H,⟨n,by simp,Nat.zero_le _,h0⟩,?_⟩;rintro i m H ⟨rfl,hi,p⟩;by_cases hlt:i<n
 ·refine .inr ⟨hlt,Pv (i+1),fun H' p'=>⟨n-(i+1),by omega,rfl,hlt,p'⟩,fun x H' y=>?_⟩;obtain⟨e,y⟩:=y;subst e y;exact hs i _ hlt p
 ·have e:i=n:=by omega
  subst e;exact .inl ⟨Nat.le_refl _,hd H p⟩
theorem Eo{K:W.Frag}{a:Addr}{xs:List V}{g:TG}{tt:TT}{te:TE}{vs:List Nat}{σ:St}{H1:Hp}{D:Addr}{Qd:Hp->Prop}(Pv:Nat->Hp->Prop)(h0:Pv 0 (aI H1 D (.lst [])))(hl:∀i H,i<=xs.length->Pv i H->aV K H a xs) (hs:∀i x H,xs[i]?=some x->Pv i H->g x (b8 σ vs) H fun σ2 H2=>b8 σ2 vs=b8 σ vs/\tt σ2 H2 fun b H3=>
   if b=true then te σ2 H3 fun y H4=>∃acc,H4 D=some (.lst acc)/\acc.length<sizeLine/\Pv (i+1) (aI H4 D (.lst (acc++[y])))else Pv (i+1) H3) (hd:∀H,Pv xs.length H->Qd H) :
  ∃W:Nat->Nat->Hp->Prop,(∃m,W 0 m (aI H1 D (.lst [])))/\∀i m H,W i m H->((z6 K a).stop i H/\Qd H)\/((z6 K a).go i H/\∃Nx:Hp->Prop,(∀H',Nx H'->∃m',m'<m/\W (i+1) m' H')/\∀x H',(z6 K a).yld i H x H'->g x (b8 σ vs) H' fun σ2 H2=>b8 σ2 vs=b8 σ vs/\tt σ2 H2 fun b H3=>if b=true then te σ2 H3 fun y H4=>∃acc,H4 D=some (.lst acc)/\acc.length<sizeLine/\Nx (aI H4 D (.lst (acc++[y])))else Nx H3):=by
 refine⟨fun i m H=>m=xs.length-i/\i<=xs.length/\Pv i H,⟨xs.length,by simp,Nat.zero_le _,h0⟩,?_⟩;rintro i m H ⟨rfl,hi,p⟩;have q:=hl i H hi p;by_cases hlt:i<xs.length
 ·refine .inr ⟨⟨xs,xs[i],q,by simp[hlt]⟩,Pv (i+1),fun H' p'=>⟨xs.length-(i+1),by omega,rfl,hlt,p'⟩,fun x H' y=>?_⟩;obtain⟨e,y⟩:=y;subst e;exact hs i x _ (y xs q) p
 ·have e:i=xs.length:=by omega
  subst e;exact .inl ⟨⟨xs,q,Nat.le_refl _⟩,hd H p⟩
def GB(N:List Str)(sc scope:Scope)(own:List (Str×Nat)):Bool:=(match scope.kind with|.function=>true|_=>false)&&(scope.names.all fun y=>decide (scope.names.lookup y.1=some y.2))&&(own.all fun p=>decide (N[p.2]?=some p.1)) && (scope.names.all fun y=>match y.2 with
   |.free=>(match sc.names.lookup y.1 with|some .cell=>true|some .free=>true|_=>false)
   |.local=>decide (y.1∈own.map (·.1))||decide (y.1∉N)
   |.cell=>decide (y.1∈own.map (·.1))||decide (y.1∉N)
   |_=>true)
theorem bD{N:List Str}{sc scope:Scope}{own:List (Str×Nat)}(h:GB N sc scope own=true):yq N sc scope own:=by
 unfold GB at h;simp only[Bool.and_eq_true,List.all_eq_true,decide_eq_true_eq]at h;obtain⟨⟨⟨h1,h2⟩,h3⟩,h4⟩:=h;refine⟨?_,h2,h3,fun y hy e=>?_,fun y hy e=>?_⟩
 ·split at h1
  ·assumption
  ·cases h1
 ·have q:=h4 y hy;simp only[e]at q;split at q<;>first|exact .inl (by assumption)|exact .inr (by assumption)|cases q
 ·have q:=h4 y hy;rcases e with e|e<;>(simp only[e,Bool.or_eq_true,decide_eq_true_eq]at q;exact q)
end L2
namespace L2
open PySem PySem.Spec PyProof.Rows
section
variable{κ:Type}[DecidableEq κ]
def bQ(kvs:List (κ×V))(k:κ):Option V:=(kvs.find? fun kv=>decide (kv.1=k)).map (·.2)
def iS(kvs:List (κ×V))(k:κ)(v:V):List (κ×V):=if(kvs.any fun kv=>decide (kv.1=k))=true then kvs.map (fun kv=>if kv.1=k then(kv.1,v)else kv)else kvs++[(k,v)]
theorem dA{p:κ×V}{r:List (κ×V)}{k:κ}(e:p.1=k):bQ (p::r) k=some p.2:=by simp[bQ,List.find?_cons,e]
theorem dC{p:κ×V}{r:List (κ×V)}{k:κ}(e:¬p.1=k):bQ (p::r) k=bQ r k:=by simp[bQ,List.find?_cons,e]
theorem ff(k:κ):∀kvs:List (κ×V),(kvs.any fun kv=>decide (kv.1=k))=(bQ kvs k).isSome
 |[]=>rfl
 |p::r=>by
  rw[List.any_cons];by_cases e:p.1=k
  ·simp only[dA e,decide_eq_true e,Bool.true_or,Option.isSome_some]
  ·rw[dC e,decide_eq_false e,Bool.false_or];exact ff k r
theorem yo(k j:κ)(y:V):∀kvs:List (κ×V),bQ (kvs.map fun kv=>if kv.1=k then(kv.1,y)else kv) j=(bQ kvs j).map fun x=>if j=k then y else x
 |[]=>rfl
 |p::r=>by
  have ih:=yo k j y r;rw[List.map_cons];by_cases h:p.1=k
  ·rw[if_pos h];by_cases e:p.1=j
   ·rw[dA (p:=(p.1,y)) e,dA e,Option.map_some,if_pos (e.symm.trans h)]
   ·rw[dC (p:=(p.1,y)) e,dC e,ih]
  ·rw[if_neg h];by_cases e:p.1=j
   ·rw[dA (p:=p) e,dA e,Option.map_some,if_neg (fun z=>h (e.trans z))]
   ·rw[dC (p:=p) e,dC e,ih]
theorem je(k j:κ)(y:V):∀kvs:List (κ×V),bQ kvs k=none->bQ (kvs++[(k,y)]) j=if j=k then some y else bQ kvs j
 |[],_=>by
  by_cases e:k=j
  ·rw[if_pos e.symm];exact dA (p:=(k,y)) e
  ·rw[if_neg (fun z=>e z.symm)];exact dC (p:=(k,y)) e
 |p::r,hn=>by
  rw[List.cons_append];have hk:¬p.1=k:=fun z=>by rw[dA z]at hn;cases hn
  rw[dC hk]at hn;have ih:=je k j y r hn;by_cases e:p.1=j
  ·rw[dA e,dA e,if_neg (fun z=>hk (e.trans z))]
  ·rw[dC e,dC e,ih]
theorem oF(kvs:List (κ×V))(k j:κ)(y:V):bQ (iS kvs k y) j=if j=k then some y else bQ kvs j:=by
 unfold iS;by_cases a:(kvs.any fun kv=>decide (kv.1=k))=true
 ·rw[if_pos a,yo];rw[ff]at a;by_cases e:j=k
  ·obtain⟨x,hx⟩:=Option.isSome_iff_exists.mp a;rw[if_pos e,e,hx,Option.map_some,if_pos rfl]
  ·rw[if_neg e];cases bQ kvs j with
   |none=>rfl
   |some x=>rw[Option.map_some,if_neg e]
 ·rw[if_neg a];refine je k j y kvs ?_;rw[ff]at a;cases q:bQ kvs k with
  |none=>rfl
  |some x=>rw[q]at a;exact(a rfl).elim
theorem eK(kvs:List (κ×V))(k:κ)(v:V):(iS kvs k v).length<=kvs.length+1:=by
 unfold iS;split
 ·rw[List.length_map];omega
 ·rw[List.length_append,List.length_cons,List.length_nil];omega
theorem sG{kvs:List (κ×V)}{k:κ}(v:V)(h:bQ kvs k=none):iS kvs k v=kvs++[(k,v)]:=by unfold iS;rw[ff,h];exact if_neg (by decide)
theorem mX.isSome_eq{o:Option V}{u:Option Value}(r:mX o u):o.isSome=u.isSome:=by
 cases o with
 |none=>cases u with
  |none=>rfl
  |some _=>exact(show False from r).elim
 |some _=>cases u with
  |none=>exact(show False from r).elim
  |some _=>rfl
theorem KV.val{kvs:List (κ×V)}{vs:List (κ×Value)}(r:KV kvs vs)(k:κ):mX (bQ kvs k) (valueAt vs k):=by
 unfold KV at r;induction r with
 |nil=>exact True.intro
 |@cons p q ps qs h t ih=>
  obtain⟨h1,h2⟩:=h;by_cases e:p.1=k
  ·have e':q.1=k:=h1.symm.trans e;have b:valueAt (q::qs) k=some q.2:=by simp[valueAt,List.find?_cons,e']
   rw[dA e,b];exact h2
  ·have e':¬q.1=k:=fun z=>e (h1.trans z);have b:valueAt (q::qs) k=valueAt qs k:=by simp[valueAt,List.find?_cons,e']
   rw[dC e,b];exact ih
theorem KV.any{kvs:List (κ×V)}{vs:List (κ×Value)}(r:KV kvs vs)(k:κ):(kvs.any fun kv=>decide (kv.1=k))=vs.any fun kv=>decide (kv.1=k):=by
 unfold KV at r;induction r with
 |nil=>rfl
 |cons h t ih=>rw[List.any_cons,List.any_cons,ih,h.1]
theorem KV.repl{kvs:List (κ×V)}{vs:List (κ×Value)}(r:KV kvs vs)(k:κ){y:V}{u:Value}(ry:br y u):KV (kvs.map fun kv=>if kv.1=k then(kv.1,y)else kv) (vs.map fun kv=>if kv.1=k then(kv.1,u)else kv):=by
 unfold KV at r⊢;induction r with
 |nil=>exact .nil
 |@cons p q ps qs h t ih=>
  rw[List.map_cons,List.map_cons];refine .cons ?_ ih;obtain⟨h1,h2⟩:=h;by_cases e:p.1=k
  ·rw[if_pos e,if_pos (h1.symm.trans e)];exact⟨h1,ry⟩
  ·rw[if_neg e,if_neg (fun z=>e (h1.trans z))];exact⟨h1,h2⟩
theorem KV.put{kvs:List (κ×V)}{vs:List (κ×Value)}(r:KV kvs vs)(k:κ){y:V}{u:Value}(ry:br y u):KV (iS kvs k y) (stored vs k u):=by
 unfold iS stored;rw[r.any k];by_cases e:(vs.any fun kv=>decide (kv.1=k))=true
 ·rw[if_pos e,if_pos e];exact r.repl k ry
 ·rw[if_neg e,if_neg e];exact Paired.snoc r ⟨rfl,ry⟩
theorem KV.length{kvs:List (κ×V)}{vs:List (κ×Value)}(r:KV kvs vs):kvs.length=vs.length:=Paired.length r
end
theorem xq{P:Program}{w:World}{k:dU}{u:Value}(r:br (kV k) u):(cb P w).is k u=true:=by
 cases k with
 |inl i=>obtain⟨t,e⟩:=(show ∃t,u=Value.int i t from r);subst e;exact ya P w i t
 |inr x=>obtain⟨t,e⟩:=(show ∃t,u=Value.str x t from r);subst e;exact wR P w x t
theorem uZ{P:Program}{w:World}:∀{ks:List dU}{us:List Value},aQ (ks.map kV) us->ItemsAre (cb P w) ks us
 |[],_,r=>by rw[List.map_nil]at r;cases r;exact .nil
 |k::ks,_,r=>by
  rw[List.map_cons]at r;cases r with
  |cons h t=>exact .cons (xq h) (uZ t)
abbrev KT(H:Hp):List (List dU×V)->List (List dU×Addr×Value)->Prop:=Paired fun p q=>p.1=q.1/\H q.2.1=some (.tup (p.1.map kV))/\br p.2 q.2.2
theorem KT.val{H:Hp}{kvs:List (List dU×V)}{xs:List (List dU×Addr×Value)}(r:KT H kvs xs)(k:List dU):mX (bQ kvs k) ((atKey xs k).map (·.2)):=by
 induction r with
 |nil=>exact True.intro
 |@cons p q ps qs h t ih=>
  obtain⟨h1,_,h2⟩:=h;by_cases e:p.1=k
  ·have e':q.1=k:=h1.symm.trans e;have b:atKey (q::qs) k=some q.2:=by simp[atKey,List.find?_cons,e']
   rw[dA e,b];exact h2
  ·have e':¬q.1=k:=fun z=>e (h1.trans z);have b:atKey (q::qs) k=atKey qs k:=by simp[atKey,List.find?_cons,e']
   rw[dC e,b];exact ih
theorem KT.repl{H:Hp}{kvs:List (List dU×V)}{xs:List (List dU×Addr×Value)}(r:KT H kvs xs)(k:List dU){y:V}{u:Value}(ry:br y u):KT H (kvs.map fun kv=>if kv.1=k then(kv.1,y)else kv) (xs.map (putAt k u)):=by
 induction r with
 |nil=>exact .nil
 |@cons p q ps qs h t ih=>
  rw[List.map_cons,List.map_cons];refine .cons ?_ ih;obtain⟨h1,h2,h3⟩:=h;unfold putAt;by_cases e:p.1=k
  ·rw[if_pos e,if_pos (h1.symm.trans e)];exact⟨h1,h2,ry⟩
  ·rw[if_neg e,if_neg (fun z=>e (h1.trans z))];exact⟨h1,h2,h3⟩
theorem KT.put{H:Hp}{kvs:List (List dU×V)}{xs:List (List dU×Addr×Value)}(r:KT H kvs xs)(k:List dU){b:Addr}{y:V}{u:Value}(hb:H b=some (.tup (k.map kV)))(ry:br y u):KT H (iS kvs k y) (storedH xs k b u):=by
 have e:(kvs.any fun kv=>decide (kv.1=k))=(atKey xs k).isSome:=by rw[ff,(r.val k).isSome_eq,Option.isSome_map]
 unfold iS storedH;rw[e];by_cases q:(atKey xs k).isSome=true
 ·rw[if_pos q,if_pos q];exact r.repl k ry
 ·rw[if_neg q,if_neg q];exact Paired.snoc r ⟨rfl,hb,ry⟩
theorem KT.keeps{H H':Hp}{kvs:List (List dU×V)}{xs:List (List dU×Addr×Value)}(r:KT H kvs xs)(ht:∀b ys,H b=some (.tup ys)->H' b=some (.tup ys)):KT H' kvs xs:=Paired.mapP r fun _ _ z=>⟨z.1,ht _ _ z.2.1,z.2.2⟩
section
variable{P:Program}{w:World}{H:Hp}{h:Heap}{a:Addr}
theorem EM{u:HO}(ok:jb P w H h)(e:Rd H a u):cF P w H h a u:=e.ok ok
theorem uY{kvs:List (dU×V)}(ok:jb P w H h)(e:Rd H a (.dK kvs)):kvs.length<=sizeLine/\(a==sysModules)=false/\∃vs,KV kvs vs/\h.DictOf (cb P w) a vs:=show cF P w H h a (.dK kvs)from EM ok e
theorem ES{kvs:List (dU×V)}(ok:jb P w H h)(e:H a=some (.dK kvs)):kvs.length<=sizeLine/\(a==sysModules)=false/\∃vs,KV kvs vs/\h.DictOf (cb P w) a vs:=uY ok (.inl e)
theorem sV{ks:List dU}(ok:jb P w H h)(e:H a=some (.tup (ks.map kV))):(tupleKind (cb P w)).is h ks a:=by
 obtain⟨_,its,r,o,h1,h2,n,h3⟩:=(show cF P w H h a (.tup (ks.map kV))from ok a _ e)
 exact⟨o,its.toArray,n,h1,h2,h3,by simpa using uZ r⟩
theorem xm{kvs:List (List dU×V)}(ok:jb P w H h)(e:Rd H a (.dT kvs)):kvs.length<=sizeLine/\(a==sysModules)=false/\∃xs,KT H kvs xs/\h.DictOfH (tupleKind (cb P w)) a xs:=by
 obtain⟨z,y,xs,r,o,es,ep,h1,h2,h3,h4,h5⟩:=(show cF P w H h a (.dT kvs)from EM ok e)
 refine⟨z,y,xs,r,o,es,ep,h1,h2,h3,h4,fun x hx=>?_,h5⟩
 have all:∀{l:List (List dU×V)}{m:List (List dU×Addr×Value)},KT H l m->∀x∈m,(tupleKind (cb P w)).is h x.1 x.2.1:=by
  intro l m q;induction q with
  |nil=>intro x hx;exact nomatch hx
  |@cons p q ps qs hq t ih=>
   intro x hx;rcases List.mem_cons.mp hx with e|hx
   ·subst e;exact sV ok (by rw[<-hq.1];exact hq.2.1)
   ·exact ih x hx
 exact all r x hx
theorem GQ{kvs:List (List dU×V)}(ok:jb P w H h)(e:H a=some (.dT kvs)):kvs.length<=sizeLine/\(a==sysModules)=false/\∃xs,KT H kvs xs/\h.DictOfH (tupleKind (cb P w)) a xs:=xm ok (.inl e)
end
def gq(H:Hp)(a:Addr)(y:V)(r:Option V):Prop:=(∃kvs k,Rd H a (.dK kvs)/\y=kV k/\r=bQ kvs k)\/∃kvs k b,Rd H a (.dT kvs)/\y=.ref b/\H b=some (.tup (k.map kV))/\r=bQ kvs k
def w6(H:Hp)(a:Addr)(y v:V)(H':Hp):Prop:=(∃kvs k,H a=some (.dK kvs)/\y=kV k/\kvs.length<sizeLine/\H'=aI H a (.dK (iS kvs k v)))\/∃kvs k b,H a=some (.dT kvs)/\y=.ref b/\H b=some (.tup (k.map kV))/\kvs.length<sizeLine/\H'=aI H a (.dT (iS kvs k v))
theorem gq.k{H:Hp}{a:Addr}{kvs:List (dU×V)}{k:dU}(e:H a=some (.dK kvs)):gq H a (kV k) (bQ kvs k):=.inl ⟨kvs,k,.inl e,rfl,rfl⟩
theorem w6.k{H:Hp}{a:Addr}{kvs:List (dU×V)}{k:dU}{v:V}(e:H a=some (.dK kvs))(hl:kvs.length<sizeLine):w6 H a (kV k) v (aI H a (.dK (iS kvs k v))):=.inl ⟨kvs,k,e,rfl,hl,rfl⟩
section
variable{X:Cx}{pins:List (Addr×Obj)}{σ:St}{H:Hp}{s:Shared}{a:Addr}{y v:V}{u r:Value}{o:Option V}{A:Around}{E:Value->Shared->Prop}
theorem aH.big(I:aH X pins σ H s):sysModules<s.heap.objs.size:=by have h:mainGlobals<s.heap.objs.size:=(I.mod.glob.keeps I.bk).lt;exact Nat.lt_trans (by decide) h
theorem A7{Q:Value->Shared->Prop}(hu:A.units+1<cLine)(I:aH X pins σ H s)(g:gq H a y (some v))(ry:br y u)(h:∀w' s',aH X pins σ H s'->br v w'->Q w' s'):wpAny (model X.prog X.w) A (getItem (.ref a) u) Q E s:=by
 rcases g with⟨kvs,k,e,ey,l⟩|⟨kvs,k,b,e,ey,eb,l⟩
 ·subst ey;obtain⟨z,hd,vs,rel,dd⟩:=uY I.hok e;obtain⟨w',hw,rw'⟩:=mX.some_of (v:=v) (o:=valueAt vs k) (by rw[l];exact rel.val k);exact wpAny_getItem_of (xq ry) dd.mapOf hw (h w' _ (I.tok _) rw')
 ·subst ey;cases(show u=Value.ref b from ry);obtain⟨z,hd,xs,rel,dd⟩:=xm I.hok e;obtain⟨w',hw,rw'⟩:=mX.some_of (v:=v) (o:=(atKey xs k).map (·.2)) (by rw[l];exact rel.val k);obtain⟨p,hp,hp2⟩:=Option.map_eq_some_iff.mp hw;refine wpAny_getItem_heap (tupleKind_room_in1 hu) (sV I.hok eb) dd hp ?_;rw[hp2];exact h w' _ (I.tok _) rw'
theorem Hn{Q:Value->Shared->Prop}(hu:A.units+1<cLine)(I:aH X pins σ H s)(g:gq H a y o)(ry:br y u)(h:∀s',aH X pins σ H s'->Q (.bool o.isSome) s'):wpAny (model X.prog X.w) A (compareOp .In u (.ref a)) Q E s:=by
 rcases g with⟨kvs,k,e,ey,l⟩|⟨kvs,k,b,e,ey,eb,l⟩
 ·subst ey;obtain⟨z,hd,vs,rel,dd⟩:=uY I.hok e;refine wpAny_in_of (xq ry) hd dd.mapOf ?_;rw[<-(rel.val k).isSome_eq,<-l];exact h _ (I.tok _)
 ·subst ey;cases(show u=Value.ref b from ry);obtain⟨z,hd,xs,rel,dd⟩:=xm I.hok e;refine wpAny_in_heap (tupleKind_room_in1 hu) (sV I.hok eb) hd dd ?_;have q:=(rel.val k).isSome_eq;rw[Option.isSome_map]at q;rw[<-q,<-l];exact h _ (I.tok _)
theorem D1{Q:Value->Shared->Prop}(hu:A.units+1<cLine)(I:aH X pins σ H s)(g:gq H a y o)(ry:br y u)(h:∀s',aH X pins σ H s'->Q (.bool (!o.isSome)) s'):wpAny (model X.prog X.w) A (compareOp .NotIn u (.ref a)) Q E s:=by
 rcases g with⟨kvs,k,e,ey,l⟩|⟨kvs,k,b,e,ey,eb,l⟩
 ·subst ey;obtain⟨z,hd,vs,rel,dd⟩:=uY I.hok e;refine wpAny_notIn_of (xq ry) hd dd.mapOf ?_;rw[<-(rel.val k).isSome_eq,<-l];exact h _ (I.tok _)
 ·subst ey;cases(show u=Value.ref b from ry);obtain⟨z,hd,xs,rel,dd⟩:=xm I.hok e;refine wpAny_notIn_heap (tupleKind_room_in1 hu) (sV I.hok eb) hd dd ?_;have q:=(rel.val k).isSome_eq;rw[Option.isSome_map]at q;rw[<-q,<-l];exact h _ (I.tok _)
theorem As{h':Heap}{t':Nat}{ob:HO}(I:aH X pins σ H s)(mu:EN (H a))(hs:Heap.SameBut a s.heap h')(he:∃q,h'.get? a=some q)(new:cF X.prog X.w (aI H a ob) h' a ob):aH X pins σ (aI H a ob) { s with heap:=h',toks:=t' }:=I.write (x:=a) (e:=a) mu (.inl rfl) (fun b q hb z=>(hs.2 b hb).trans z) he new
theorem Ft{P:Program}{w:World}{H':Hp}{h':Heap}{kvs:List (dU×V)}{vs:List (dU×Value)}(z:kvs.length<=sizeLine)(hd:(a==sysModules)=false)(rel:KV kvs vs)(dd:h'.DictOf (cb P w) a vs):cF P w H' h' a (.dK kvs):=⟨z,hd,vs,rel,dd⟩
theorem AO{H':Hp}{Q:Unit->Shared->Prop}(hu:A.units+1<cLine)(I:aH X pins σ H s)(g:w6 H a y v H')(ry:br y u)(rv:br v r)(h:∀s',aH X pins σ H' s'->Q () s'):wpAny (model X.prog X.w) A (setItem (.ref a) u r) Q E s:=by
 rcases g with⟨kvs,k,e,ey,l,eH⟩|⟨kvs,k,b,e,ey,eb,l,eH⟩
 ·subst ey eH;obtain⟨z,hd,vs,rel,dd⟩:=ES I.hok e;have hz:vs.length<=sizeLine:=by rw[<-rel.length];exact z
  have hl:(iS kvs k v).length<=sizeLine:=by have:=eK kvs k v;omega
  refine wpAny_setItem_pairs (hsz:=hz) (xq ry) dd fun h' dd' hs=>h _ ?_;have he:∃q,h'.get? a=some q:=let⟨q,_,_,hq,_⟩:=dd';⟨q,hq⟩;exact As I (by rw[e];exact True.intro) hs he (Ft hl hd (rel.put k rv) dd')
 ·subst ey eH;cases(show u=Value.ref b from ry);obtain⟨z,hd,xs,rel,dd⟩:=GQ I.hok e;have hz:xs.length<=sizeLine:=by rw[<-Paired.length rel];exact z
  have hl:(iS kvs k v).length<=sizeLine:=by have:=eK kvs k v;omega
  refine wpAny_setItem_heap (hsz:=hz) (tupleKind_room_in1 hu) (sV I.hok eb) dd fun h' dd' hs=>h _ ?_;obtain⟨q,es,ep,hq,h2,h3,h4,_,h5⟩:=dd';refine As I (by rw[e];exact True.intro) hs ⟨q,hq⟩ ⟨hl,hd,_,(rel.put k eb rv).keeps fun c ys ec=>?_,q,es,ep,hq,h2,h3,h4,h5⟩;rw[ai (cv ec e (fun z=>nomatch z))];exact ec
end
section
variable{X:Cx}{pins:List (Addr×Obj)}{σ:St}{H:Hp}{s:Shared}{a:Addr}{kvs:List (dU×V)}{k:dU}{u:Value}{A:Around}{E:Value->Shared->Prop}
theorem GG {Q:Value->Shared->Prop} (I:aH X pins σ H s) (e:Rd H a (.dK kvs)) (h:∀t s',aH X pins σ H s'->Q (.int kvs.length t) s'):wpAny (model X.prog X.w) A (call (.builtin "len") [.ref a]) Q E s:=by obtain⟨z,hd,vs,rel,dd⟩:=uY I.hok e;refine call_len_dict hd dd (by rw[<-rel.length];rw[sizeLine_eq]at z;omega) ?_;rw[<-rel.length];exact h _ _ (I.tok _)
end
def Gc(i:Expr):Prop:=∀ov iv,subscripted i false ov iv=operate [ov,iv] (getItem ov iv)
theorem Ef{prog:Program}{w:World}{A:Around}{E:Value->Shared->Prop}{s:Shared}{env:Env}{value slice:Expr}{pos:Pos}{T id:String}{Q:Value->Shared->Prop} (hl:typeLookup (.type T) "__getitem__"=pure (some (.builtin id))) (hs:Gc slice) (h:wpAny (model prog w) A (eval value env) (fun o s₁=>wpAny (model prog w) A (eval slice env) (fun i s₂=>s₂.TypeIs o T/\wpAny (model prog w) A (getItem o i) Q E s₂) E s₁) E s) :wpAny (model prog w) A (eval (.Subscript value slice pos) env) Q E s:=by
 refine Subscript_ (wpAny_mono h (fun o s₁ h₁=>wpAny_mono h₁ (fun i s₂ h₂=>?_) fun _ _ x=>x) fun _ _ x=>x);obtain⟨hT,h₂⟩:=h₂;unfold subscriptTail;refine wpAny_bind ?_;rw[getitemInPython_of_ne hT.not_modules];refine wpAny_bind (wpAny_specialOf hT hl ?_);have fin:wpAny (model prog w) A (subscripted slice false o i) (fun r s₃=>wpAny (model prog w) A (letTemporaryGo value o r >>= fun _=>pure r) Q E s₃) E s₂:=by rw[hs o i];exact wpAny_operating (wpAny_mono h₂ (fun r s₃ h₃=>wpAny_bind (wpAny_letTemporaryGo (wpAny_pure h₃))) fun _ _ x=>x)
 first
  |exact wpAny_pure (wpAny_bind fin)
  |exact wpAny_bind (wpAny_pure (wpAny_bind fin))
  |exact wpAny_bind fin
theorem xF {X:Cx} {pins:List (Addr×Obj)} {σ:St} {H:Hp} {s:Shared} {a:Addr} {y:V} {o:Option V} (I:aH X pins σ H s) (g:gq H a y o):s.TypeIs (.ref a) "dict":=by
 rcases g with⟨kvs,k,e,_,_⟩|⟨kvs,k,b,e,_,_,_⟩
 ·obtain⟨_,_,vs,_,dd⟩:=uY I.hok e;exact dd.typeIs
 ·obtain⟨_,_,xs,_,dd⟩:=xm I.hok e;exact dd.typeIs
def Aj(td ty:TE):TE:=fun σ H Q=>td σ H fun x H1=>ty σ H1 fun y H2=>∃a v,x=.ref a/\gq H2 a y (some v)/\Q v H2
def GK(ty td:TE):TE:=fun σ H Q=>ty σ H fun y H1=>td σ H1 fun x H2=>∃a o,x=.ref a/\gq H2 a y o/\Q (.bl o.isSome) H2
def Ar(ty td:TE):TE:=fun σ H Q=>ty σ H fun y H1=>td σ H1 fun x H2=>∃a o,x=.ref a/\gq H2 a y o/\Q (.bl (!o.isSome)) H2
def CK(td ty tv:TE):TS:=fun D σ H=>tv σ H fun v H1=>td σ H1 fun x H2=>ty σ H2 fun y H3=>∃a H4,x=.ref a/\w6 H3 a y v H4/\D.nx σ H4
section
variable{X:Cx}{o i e value:Expr}{pos pos' tpos:Pos}{td ty tv:TE}
theorem d6(hu:X.A.units+1<cLine)(ho:PE X o td)(hi:PE X i ty)(hs:Gc i):PE X (.Subscript o i pos) (Aj td ty):=by intro pins s σ H Q I h;refine Ef PySem.F.slot_dict_getitem.lookup hs (cA (ho pins s σ H _ I h) fun u s1⟨x,H1,I1,rx,q1⟩=>cA (hi pins s1 σ H1 _ I1 q1) fun iv s2⟨y,H2,I2,ry,a,v,ex,g,q2⟩=>?_);subst ex;obtain rfl:u=Value.ref a:=rx;exact⟨xF I2 g,A7 hu I2 g ry fun w' s3 I3 rw'=>⟨v,H2,I3,rw',q2⟩⟩
theorem Fj(hu:X.A.units+1<cLine)(hi:PE X i ty)(ho:PE X o td):PC X .In i o (GK ty td):=by intro pins s σ H Q I h;refine cA (hi pins s σ H _ I h) fun iv s1⟨y,H1,I1,ry,q1⟩=>cA (ho pins s1 σ H1 _ I1 q1) fun u s2⟨x,H2,I2,rx,a,ov,ex,g,q2⟩=>?_;subst ex;obtain rfl:u=Value.ref a:=rx;exact Hn hu I2 g ry fun s3 I3=>⟨.bl ov.isSome,H2,I3,rfl,q2⟩
theorem uV(hu:X.A.units+1<cLine)(hi:PE X i ty)(ho:PE X o td):PC X .NotIn i o (Ar ty td):=by intro pins s σ H Q I h;refine cA (hi pins s σ H _ I h) fun iv s1⟨y,H1,I1,ry,q1⟩=>cA (ho pins s1 σ H1 _ I1 q1) fun u s2⟨x,H2,I2,rx,a,ov,ex,g,q2⟩=>?_;subst ex;obtain rfl:u=Value.ref a:=rx;exact D1 hu I2 g ry fun s3 I3=>⟨.bl (!ov.isSome),H2,I3,rfl,q2⟩
theorem jI(hu:X.A.units+1<cLine)(ho:PE X o td)(hi:PE X i ty)(hv:PE X value tv)(hs:swapsWith value (some (.Subscript o i pos')) pos.line X.env=pure false):PS X (.Assign [.Subscript o i pos'] value pos) (CK td ty tv):=by intro pins s σ H D I h;refine wpAny_Assign_Subscript (cA (hv pins s σ H _ I h) fun r s1⟨v,H1,I1,rv,q1⟩=>cA (ho pins s1 σ H1 _ I1 q1) fun u s2⟨x,H2,I2,rx,q2⟩=>cA (hi pins s2 σ H2 _ I2 q2) fun iv s3⟨y,H3,I3,ry,a,H4,ex,g,q3⟩=>?_) hs;subst ex;obtain rfl:u=Value.ref a:=rx;exact AO hu I3 g ry rv fun s4 I4=>⟨σ,H4,I4,q3⟩
end
theorem Dl {P:Program} {w:World} {H:Hp} (h:Heap) (hb:sysModules<h.objs.size):cF P w H (h.push { cls:=.type "dict",data:=.dict #[] }) h.objs.size (.dK []):=⟨Nat.zero_le _,beq_eq_false_iff_ne.mpr (Ne.symm (Nat.ne_of_lt hb)),[],.nil,Heap.DictOf.new h⟩
def C7:TE:=fun _ H Q=>∀p,H p=none->Q (.ref p) (aI H p (.dK []))
section
variable{X:Cx}{pos:Pos}
theorem ig:PE X (.Dict [] [] pos) C7:=fun pins s σ H Q I h=>wpAny_Dict_empty ⟨.ref s.heap.objs.size,_,I.laid (a:=s.heap.objs.size) (o:=.dK []) (t':=s.toks) (fun _ _ q=>Heap.get?_push_of_some _ q) (Nat.le_refl _) (Dl s.heap I.big),rfl,h _ (I.hok.fresh (Nat.le_refl _))⟩
end
end L2
namespace L2
open PySem PySem.Spec PyProof.Rows
theorem kY:bootBuiltins "reversed"=some (.type "reversed"):=by decide +kernel
section
variable{X:Cx}{pins:List (Addr×Obj)}{σ:St}{H:Hp}{s:Shared}{h':Heap}
theorem aH.turnedNew{t':Nat}{ch:List Addr}{T:Addr}{ob:HO}(I:aH X pins σ H s)(k:∀b o,b∉ch->s.heap.get? b=some o->h'.get? b=some o)(hf:∀b∈ch,qJ X pins H b)(hT:s.heap.objs.size<=T) (new:cF X.prog X.w (aI H T ob) h' T ob):aH X pins σ (aI H T ob) { s with heap:=h',toks:=t' }:=by
 have hn:H T=none:=I.hok.fresh hT;have nit:∀b u,H b=some u->b∉ch:=fun b u e z=>by have q:=(hf b z).1;rw[q]at e;cases e
 refine I.step (g':=s.gens) (d':=s.drawn) (ch:=ch) (fun b hb=>⟨(hf b hb).2.2.2.1,(hf b hb).2.1,(hf b hb).2.2.2.2.1,(hf b hb).2.2.2.2.2⟩) (fun b o _ _ hc e _=>k b o hc e) (fun b o _ _ hc e _=>⟨o.slots,k b o hc e⟩) (fun b o _ e n=>?_) (fun b o hc e=>⟨o,k b o hc e⟩) (fun b xs e=>?_) (fun b o u e=>?_) (fun b ps e=>⟨#[],?_⟩) (fun m hm=>?_) (fun b u e=>?_) I.bare
 ·rw[ai (Nat.ne_of_lt (Nat.lt_of_lt_of_le (Heap.lt_size e) hT))];exact n
 ·rw[ai (au e hn)];exact e
 ·rw[ai (au e hn)];exact e
 ·rw[ai (au e hn),e];simp
 ·obtain⟨o,es,ep,ho,r⟩:=hm;exact⟨o,es,ep,k _ o (fun z=>(hf _ z).2.1 rfl) ho,r⟩
 ·by_cases hb:b=T
  ·subst hb;rw[ah]at e;cases e;exact new
  ·rw[ai hb]at e;refine(I.hok b u e).stay (fun c v hc q=>k c v ?_ q) (fun c q=>by rw[ai (au q hn)];exact q) fun c xs q=>by rw[ai (au q hn)];exact q
   rcases hc with z|z
   ·rw[z];exact nit b u e
   ·exact nit c _ z
theorem aH.lock{d:Addr}{u:HO}(I:aH X pins σ H s)(h:H d=some u)(mu:EN (some u)):∃od,aH X pins σ (aI H d (.frz od u)) s:=by
 have x:=I.hok d u h
 have ex:∃od,s.heap.get? d=some od:=by
  cases u with
  |lst xs=>obtain⟨_,_,_,_,e⟩:=x;exact⟨_,e⟩
  |dK kvs=>obtain⟨_,_,_,_,o,_,_,e,_⟩:=x;exact⟨o,e⟩
  |dT kvs=>obtain⟨_,_,_,_,o,_,_,e,_⟩:=x;exact⟨o,e⟩
  |set S n=>obtain⟨o,_,_,_,e,_⟩:=x;exact⟨o,e⟩
  |ins C dx fs=>obtain⟨_,_,_,e,_⟩:=x;exact⟨_,e⟩
  |ext φ=>obtain⟨_,⟨_,e⟩,_⟩:=x;exact⟨_,e⟩
  |_=>exact False.elim mu
 obtain⟨od,e⟩:=ex
 have new:cF X.prog X.w (aI H d (.frz od u)) s.heap d (.frz od u):=by
  refine⟨e,x.stay (fun b v _ q=>q) (fun b q=>?_) fun b xs q=>?_⟩
  ·rw[ai (fun z=>by rw[z,h]at q;cases q;exact mu)];exact q
  ·rw[ai (fun z=>by rw[z,h]at q;cases q;exact mu)];exact q
 exact⟨od,I.write (x:=d) (e:=d) (t':=s.toks) (h':=s.heap) (by rw[h];exact mu) (.inl rfl) (fun b v _ q=>q) ⟨od,e⟩ new⟩
theorem aH.nofrz{d:Addr}{u:HO}(I:aH X pins σ H s)(h:H d=some u)(mu:EN (some u)):∀o' u',X.H_0 d≠some (.frz o' u'):=fun o' u' e=>by have q:=I.base.frzs d o' u' e;rw[h]at q;cases q;exact mu
theorem aH.unlock{d:Addr}{od:Obj}{u:HO}(I:aH X pins σ H s)(h:H d=some (.frz od u))(hn:∀o' u',X.H_0 d≠some (.frz o' u')):aH X pins σ (aI H d u) s:=by
 have neH:∀b o,H b=some o->(∀o' u',o≠.frz o' u')->b≠d:=fun b o e hne z=>by rw[z,h]at e;cases e;exact hne _ _ rfl
 have neN:∀b,H b=none->b≠d:=fun b e z=>by rw[z,h]at e;cases e
 refine⟨I.ok,I.os,I.bare,⟨I.base.keep,I.base.slot,fun b o e n hx=>?_,I.base.there,fun b xs e=>?_,fun b o x e=>?_,fun b ps e=>?_⟩,I.loc,I.cell,?_,fun x c e=>?_,fun p hp=>?_,fun b o e=>?_,I.len⟩
 ·rw[ai (neN b (I.base.free b o e n hx))];exact I.base.free b o e n hx
 ·have q:=I.base.tups b xs e;rw[ai (neH b _ q (fun _ _ z=>nomatch z))];exact q
 ·have q:=I.base.frzs b o x e;rw[ai (fun z=>by rw[z]at e;exact hn _ _ e)];exact q
 ·obtain⟨m,q⟩:=I.base.tbls b ps e;exact⟨m,by rw[ai (neH b _ q (fun _ _ z=>nomatch z))];exact q⟩
 ·rw[ai (neN _ I.free)];exact I.free
 ·rw[ai (neN c (I.freeC x c e))];exact I.freeC x c e
 ·obtain⟨e,n,r⟩:=I.pin p hp;exact⟨e,by rw[ai (neN _ n)];exact n,r⟩
 ·by_cases hb:b=d
  ·rw[hb,ah]at e;cases e;rw[hb];obtain⟨_,x⟩:=I.hok d _ h;exact x.stay (fun c v _ q=>q) (fun c q=>by rw[ai (neH c _ q (fun _ _ z=>nomatch z))];exact q) fun c xs q=>by rw[ai (neH c _ q (fun _ _ z=>nomatch z))];exact q
  ·rw[ai hb]at e;exact(I.hok b o e).stay (fun c v _ q=>q) (fun c q=>by rw[ai (neH c _ q (fun _ _ z=>nomatch z))];exact q) fun c xs q=>by rw[ai (neH c _ q (fun _ _ z=>nomatch z))];exact q
end
def Gx(t:TS):TS:=fun D σ H=>∃d u,H d=some u/\EN (some u)/\∀od,t ⟨fun σ' H'=>H' d=some (.frz od u)/\D.nx σ' (aI H' d u),fun v H'=>H' d=some (.frz od u)/\D.rt v (aI H' d u),fun σ' H'=>H' d=some (.frz od u)/\D.bk σ' (aI H' d u),fun σ' H'=>H' d=some (.frz od u)/\D.ct σ' (aI H' d u)⟩ σ (aI H d (.frz od u))
section
variable{X:Cx}
theorem DP{st:Stmt}{t:TS}(h:PS X st t):PS X st (Gx t):=by
 intro pins s σ H D I hw;obtain⟨d,u,hd,mu,hw⟩:=hw;obtain⟨od,I1⟩:=I.lock hd mu;refine cA (h pins s σ _ _ I1 (hw od)) fun f s1 q=>?_;cases f with
 |next=>obtain⟨σ',H',I2,e,q⟩:=q;exact⟨σ',_,I2.unlock e (I.nofrz hd mu),q⟩
 |brk=>obtain⟨σ',H',I2,e,q⟩:=q;exact⟨σ',_,I2.unlock e (I.nofrz hd mu),q⟩
 |cont=>obtain⟨σ',H',I2,e,q⟩:=q;exact⟨σ',_,I2.unlock e (I.nofrz hd mu),q⟩
 |ret v=>obtain⟨x,σ',H',I2,r,e,q⟩:=q;exact⟨x,σ',_,I2.unlock e (I.nofrz hd mu),r,q⟩
theorem zu{tg:Expr}{pins:List (Addr×Obj)}{σ:St}{H:Hp}{s:Shared}{R:It->Hp->Prop}{J:It}{tn:Nat->Heap->Prop}{tk:Nat}(I:aH X pins σ H s)(o:Obj) (T:wF X.prog X.w X.K tg J [s.heap.objs.size] s.heap.objs.size tn) (st:tn 0 (s.heap.push o)) (q:R J H):G3 X pins σ tg R (.ref s.heap.objs.size) { s with heap:=s.heap.push o,toks:=tk }:=by
 refine⟨s.heap.objs.size,[s.heap.objs.size],tn,J,H,rfl,I.kept fun b ob e=>Heap.get?_push_of_some _ e,T,st,fun b hb=>?_,q⟩;have e:b=s.heap.objs.size:=by simpa using hb
 subst e;exact I.fpOk (Nat.le_refl _) (I.hok.fresh (Nat.le_refl _))
end
def GV(lo c:Int)(n:Nat):It:=⟨fun i _=>i<n,fun i H x H'=>H'=H/\x=.int (lo+(i:Nat)*c),fun i _=>n<=i⟩
theorem xo{P:Program}{w:World}{K:W.Frag}{tg:Expr}(it:Addr)(lo c:Int)(n:Nat):wF P w K tg (GV lo c n) [it] it (fun i h=>IsRangeIter h it (lo+(i:Nat)*c) ((n:Int)-(i:Nat)) c) where
 mem:=by simp
 obj:=fun i h st b hb=>by
  have e:b=it:=by simpa using hb
  subst e;exact⟨_,st,fun v z=>nomatch z⟩
 keep:=fun i h h' st k=>k it (by simp) _ st;item:=by intro X hP hw hK hc i pins s σ H E I hf st hg;subst hP hw hK;obtain⟨f0,f1,f2,f3,f4,f5⟩:=hf it (by simp);have W:=Walks.range (prog:=X.prog) (w:=X.w) (I.ok.hd hc) it lo c n;refine W.item i s _ _ hg st fun v h' tk hv st' kk=>?_;obtain⟨t,rfl⟩:=hv;have I1:aH X pins σ H { s with heap:=h',toks:=tk }:=I.turned (fun b o hb e=>kk b o (by simpa using hb) e) f0 f1 f3 f4 f5;exact⟨_,rfl,ym (s:={ s with heap:=h',toks:=tk }) (n:="range_iterator") st' rfl rfl (by decide) ⟨.int (lo+(i:Nat)*c),H,I1,⟨t,rfl⟩,⟨rfl,rfl⟩,st',fun b hb=>(hf b hb).1⟩⟩
 done:=by intro X hP hw hK hc i pins s σ H E I hf st hg;subst hP hw hK;obtain⟨f0,f1,f2,f3,f4,f5⟩:=hf it (by simp);exact wpAny_pyNext_range_end (I.ok.hd hc) st (by have:n<=i:=hg;omega) fun h' eb=>⟨rfl,I.turned (t':=s.toks) (fun b o hb e=>eb b o hb e) f0 f1 f3 f4 f5⟩
 self:=fun A i s Q E st h=>wpAny_pyIter_rangeiter st h
def HN(i j c:Int)(n:Nat):Prop:=c≠0/\c.natAbs<1073741824/\Builtin.Range.small i j c=true/\Builtin.Range.rangeSize i j c=n
def GC(ta:TA):TI:=fun σ H R=>ta σ H fun vs H1=>∃(i j c:Int)(n:Nat),vs=[.int i,.int j,.int c]/\HN i j c n/\R (GV i c n) H1
section
variable{X:Cx}{tg:Expr}
theorem BH {a b c:Expr} {ta:TA} {p pos:Pos} (hg:Gl X "range") (hm:X.mg "range"=none) (ha:PA X [a,b,c] ta) (hs:starEach [a,b,c] X.env=(false,eval a X.env)::starEach [b,c] X.env:=by rfl) (hpl:(backTo pos (starEach [b,c] X.env)).any (·.1)=false:=by rfl) :PI X tg (.Call (.Name "range" p) [a,b,c] [] pos) (GC ta):=by
 intro pins s σ H R I h;refine Call_ (lQ I hg hm boot_range (PyProof.Rows.callWith_type1 (cA (ha pos pins s σ H _ I h) fun us s1⟨vs,H1,I1,r1,q1⟩=>?_) hs hpl));obtain⟨i,j,k,n,e,⟨c0,c1,c2,c3⟩,q⟩:=q1;subst e;cases r1 with
 |cons r rr=>
  cases rr with
  |cons r' rr=>
   cases rr with
   |cons r'' rr=>
    cases rr;obtain⟨t,rfl⟩:=r;obtain⟨t',rfl⟩:=r';obtain⟨t'',rfl⟩:=r'';refine call_range_3 c0 ?_ (.inl (PyProof.noPylong_small c1));refine wpAny_pyIter_range (IsRange.new ..) c2 ?_;have I2:aH X pins σ H1 { s1 with heap:=s1.heap.push { cls:=.type "range",data:=.fields #[.int i t,.int j t',.int k t''] } }:=I1.kept (t':=s1.toks) fun b o e=>Heap.get?_push_of_some _ e;refine zu (tk:=s1.toks) I2 _ (xo _ i k n) ?_ q;have e1:i+((0:Nat):Int)*k=i:=by simp
    have e2:(n:Int)-((0:Nat):Int)=Builtin.Range.rangeSize i j k:=by rw[c3];simp
    show IsRangeIter _ _ (i+((0:Nat):Int)*k) ((n:Int)-((0:Nat):Int)) k;rw[e1,e2];exact Heap.get?_push_size _ rfl
end
def HG(K:W.Frag)(a:Addr)(n:Nat):It:=⟨fun i H=>i<n/\∃(xs:List V)(x:V),aV K H a xs/\xs[n-1-i]?=some x,fun i H x H'=>H'=H/\∀xs,aV K H a xs->xs[n-1-i]?=some x,fun i _=>n<=i⟩
theorem C3{P:Program}{w:World}{K:W.Frag}{tg:Expr}(a it:Addr)(n:Nat):wF P w K tg (HG K a n) [it] it (fun i h=>i<=n/\h.IsRevIter it a ((n:Int)-1-(i:Nat))) where
 mem:=by simp
 obj:=fun i h st b hb=>by
  have e:b=it:=by simpa using hb
  subst e;obtain⟨_,o,e,c,d⟩:=st;exact⟨o,e,fun v z=>by rw[d]at z;cases z⟩
 keep:=fun i h h' st k=>⟨st.1,st.2.at fun o e=>k it (by simp) o e⟩
 item:=by
  intro X hP hw hK hc i pins s σ H E I hf st hg;subst hP hw hK;obtain⟨hin,xs,x,hq,hx⟩:=hg;obtain⟨its,rv,p,hz⟩:=I.list hq;obtain⟨u,hu,ru⟩:=rv.get hx;obtain⟨f0,f1,f2,f3,f4,f5⟩:=hf it (by simp);obtain⟨_,hit⟩:=st;have e1:(n:Int)-1-((i:Nat):Int)=((n-1-i:Nat):Int):=by omega
  rw[e1]at hit;refine wpAny_pyNext_rev_item hit p.isList (x:=u) (by simpa using hu) fun h' st' sb=>?_;have e2:((n-1-i:Nat):Int)-1=(n:Int)-1-((i+1:Nat):Int):=by omega
  rw[e2]at st';have I1:aH X pins σ H { s with heap:=h' }:=I.turned (t':=s.toks) (fun b o hb e=>(sb.2 b hb).trans e) f0 f1 f3 f4 f5;obtain⟨o,e,c,d⟩:=id st';exact⟨u,rfl,ym (s:={ s with heap:=h' }) e c d (by decide) ⟨x,H,I1,ru,⟨rfl,fun ys hy=>by rw[I.list_inj hy hq];exact hx⟩,⟨hin,st'⟩,fun b hb=>(hf b hb).1⟩⟩
 done:=by
  intro X hP hw hK hc i pins s σ H E I hf st hg;subst hP hw hK;obtain⟨f0,f1,f2,f3,f4,f5⟩:=hf it (by simp);obtain⟨hin,hit⟩:=st;have hge:n<=i:=hg;have e1:(n:Int)-1-((i:Nat):Int) = -1:=by omega
  rw[e1]at hit;exact wpAny_pyNext_rev_end (I.ok.hd hc) hit fun h' eb=>⟨rfl,I.turned (t':=s.toks) (fun b o hb e=>eb b o hb e) f0 f1 f3 f4 f5⟩
 self:=fun A i s Q E st h=>wpAny_pyIter_revIter st.2 h
def Ge(K:W.Frag)(ta:TA):TI:=fun σ H R=>ta σ H fun vs H1=>∃(a:Addr)(xs:List V),vs=[.ref a]/\aV K H1 a xs/\R (HG K a xs.length) H1
section
variable{X:Cx}{tg:Expr}
theorem xM {e:Expr} {ta:TA} {p pos:Pos} (hg:Gl X "reversed") (hm:X.mg "reversed"=none) (ha:PA X [e] ta) (hs:starEach [e] X.env=[(false,eval e X.env)]:=by rfl):PI X tg (.Call (.Name "reversed" p) [e] [] pos) (Ge X.K ta):=by
 intro pins s σ H R I h;refine Call_ (lQ I hg hm kY (PyProof.Rows.callWith_type1 (cA (ha pos pins s σ H _ I h) fun us s1⟨vs,H1,I1,r1,q1⟩=>?_) hs rfl));obtain⟨a,xs,e,hq,q⟩:=q1;subst e;cases r1 with
 |cons r rr=>
  cases rr;cases r;obtain⟨its,rv,p',hz⟩:=I1.list hq;have hl:=rv.length;have e1:((its.toArray.size:Nat):Int)-1=(xs.length:Int)-1-((0:Nat):Int):=by simp only[List.size_toArray];omega
  refine call_reversed_list p'.isList (wpAny_pyIter_revIter (l:=a) (i:=((its.toArray.size:Nat):Int)-1) ⟨_,Heap.get?_push_size _ rfl,rfl,rfl⟩ ?_);refine zu (tk:=s1.toks) I1 _ (C3 a _ xs.length) ⟨Nat.zero_le _,?_⟩ q;rw[<-e1];exact⟨_,Heap.get?_push_size _ rfl,rfl,rfl⟩
end
theorem Fb{κ:Type}{kvs:List (κ×V)}{vs:List (κ×Value)}(h:KV kvs vs):∀{i:Nat}{k:κ}{v:V},kvs[i]?=some (k,v)->∃u,vs[i]?=some (k,u)/\br v u:=by
 unfold KV at h;induction h with
 |nil=>intro i k v e;simp at e
 |@cons a b l₁ l₂ r t ih=>
  intro i k v e;cases i with
  |zero=>simp only[List.getElem?_cons_zero,Option.some.injEq]at e;subst e;refine⟨b.2,?_,r.2⟩;simp only[List.getElem?_cons_zero];exact congrArg some (Prod.ext r.1.symm rfl)
  |succ j=>simp only[List.getElem?_cons_succ]at e⊢;exact ih e
theorem xJ{k:dU}{u:Value}(h:oq k u=true):br (kV k) u:=by
 rcases cq h with⟨i,t,rfl,rfl⟩|⟨x,t,rfl,rfl⟩
 ·exact⟨t,rfl⟩
 ·exact⟨t,rfl⟩
section
variable{X:Cx}{pins:List (Addr×Obj)}{σ:St}{H:Hp}{s:Shared}{d:Addr}{o:Obj}
theorem aH.frzK{kvs:List (dU×V)}(I:aH X pins σ H s)(h:H d=some (.frz o (.dK kvs))):(d==sysModules)=false/\s.heap.get? d=some o/\o.ExactDict/\∃(es:Array DictEntry)(ep:Nat)(vs:List (dU×Value)),o.data=.dict es ep/\es.size=kvs.length/\KV kvs vs/\s.heap.DictAt (cb X.prog X.w) d vs ep:=by obtain⟨hd,z,hs,vs,kv,o',es,ep,ho,hx,hdt,r⟩:=I.hok d _ h;rw[hd]at ho;cases ho;refine⟨hs,hd,hx,es,ep,vs,hdt,?_,kv,o,es,hd,hx,hdt,r⟩;have l1:=r.2.1.length;have l2:kvs.length=vs.length:=Paired.length kv;rw[Array.length_toList]at l1;omega
end
def HL(d:Addr)(o:Obj)(kvs:List (dU×V)):It:=⟨fun i H=>H d=some (.frz o (.dK kvs))/\i<kvs.length,fun i H x H'=>∃T k v,kvs[i]?=some (k,v)/\x=.ref T/\H T=none/\H'=aI H T (.tup [kV k,v]),fun i H=>H d=some (.frz o (.dK kvs))/\kvs.length<=i⟩
theorem AC{o:Obj}{es es':Array DictEntry}{ep ep':Nat}(h:o.data=.dict es ep)(h':o.data=.dict es' ep'):es'=es/\ep'=ep:=by rw[h]at h';cases h';exact⟨rfl,rfl⟩
section
variable{P:Program}{w:World}{K:W.Frag}{tg:Expr}{d:Addr}{o:Obj}{es:Array DictEntry}{ep:Nat}
theorem yZ{kvs:List (dU×V)}{elts:List Expr}{kk:Nat}{tpos:Pos}(it:Addr)(hod:o.data=.dict es ep):wF P w K (.Tuple elts kk tpos) (HL d o kvs) [it] it (fun i h=>∃ok ov,IsItemIter h it d i kvs.length ep ok ov) where
 mem:=by simp
 obj:=fun i h st b hb=>by
  have e:b=it:=by simpa using hb
  subst e;obtain⟨ok,ov,e⟩:=st;exact⟨_,e,fun v z=>nomatch z⟩
 keep:=fun i h h' st k=>let⟨ok,ov,e⟩:=st;⟨ok,ov,k it (by simp) _ e⟩
 item:=by
  intro X hP hw hK hc i pins s σ H E I hf st hg;subst hP hw hK;obtain⟨hd,hi⟩:=hg;obtain⟨hs,hgd,hx,es',ep',vs,hdt,hsz,kv,hm⟩:=I.frzK hd;obtain⟨rfl,rfl⟩:=AC hod hdt;obtain⟨⟨k,v⟩,hkv⟩:∃p,kvs[i]?=some p:=⟨kvs[i],List.getElem?_eq_getElem hi⟩
  obtain⟨u,hu,ru⟩:=Fb kv hkv;have hl:kvs.length=vs.length:=Paired.length kv;obtain⟨ok,ov,he⟩:=st;rw[hl]at he;have hlt:it<s.heap.objs.size:=Heap.lt_size he;refine wpAny_pyNext_items_item he hm hu fun key h' hkey ho hT hz hk=>?_;refine⟨_,rfl,wpAny_letOwnedTupleGo_items (s:={ s with heap:=h' }) ho fun h'' he' sb=>?_⟩;have hT2:h''.get? s.heap.objs.size=some { cls:=.type "tuple",data:=.seq #[key,u] }:=(sb.2 _ (Nat.ne_of_gt hlt)).trans hT;have new:cF X.prog X.w (aI H s.heap.objs.size (.tup [kV k,v])) h'' s.heap.objs.size (.tup [kV k,v]):=⟨by show 2<=sizeLine;decide,[key,u],.cons (xJ (show oq k key=true from hkey)) (.cons ru .nil),⟨_,hT2,rfl,_,rfl⟩⟩
  have I1:aH X pins σ (aI H s.heap.objs.size (.tup [kV k,v])) { s with heap:=h'' }:=I.turnedNew (t':=s.toks) (ch:=[it]) (fun b ob hb e=>(sb.2 b (by simpa using hb)).trans (hk b ob (by simpa using hb) e)) hf (Nat.le_refl _) new;refine⟨.ref s.heap.objs.size,_,I1,rfl,⟨_,k,v,hkv,rfl,I.hok.fresh (Nat.le_refl _),rfl⟩,⟨key,u,?_⟩,fun b hb=>?_⟩
  ·rw[hl];exact he'
  ·have e:b=it:=by simpa using hb
   rw[e,ai (Nat.ne_of_lt hlt)];exact(hf it (by simp)).1
 done:=by intro X hP hw hK hc i pins s σ H E I hf st hg;subst hP hw hK;obtain⟨hd,hi⟩:=hg;obtain⟨f0,f1,f2,f3,f4,f5⟩:=hf it (by simp);obtain⟨hs,hgd,hx,es',ep',vs,hdt,hsz,kv,hm⟩:=I.frzK hd;obtain⟨rfl,rfl⟩:=AC hod hdt;have hl:kvs.length=vs.length:=Paired.length kv;obtain⟨ok,ov,he⟩:=st;rw[hl]at he;exact wpAny_pyNext_items_end (I.ok.hd hc) he hm (List.getElem?_eq_none (by omega)) fun h' eb=>⟨rfl,I.turned (t':=s.toks) (fun b ob hb e=>eb b ob hb e) f0 f1 f3 f4 f5⟩
 self:=fun A i s Q E st h=>let⟨_,_,e⟩:=st;W.kcp_self e h
end
def C0(td:TE):TI:=fun σ H R=>td σ H fun x H1=>∃d o kvs,x=.ref d/\H1 d=some (.frz o (.dK kvs))/\R (HL d o kvs) H1
section
variable{X:Cx}{tg e:Expr}{td:TE}{apos cpos:Pos}
theorem CB {elts:List Expr} {kk:Nat} {tpos:Pos} (he:PE X e td) (hbase:attributeBase e "items" X.env (eval e X.env)=eval e X.env:=by rfl) (hline:(apos.endLine==cpos.line)=true:=by rfl) :PI X (.Tuple elts kk tpos) (.Call (.Attribute e "items" apos) [] [] cpos) (C0 td):=by
 intro pins s σ H R I h;refine wpAny_Call_method (T:="dict") (id:="dict.items") hbase rfl hline F.plainAttrs_dict F.slot_dict_items F.type_dict_items (cA (he pins s σ H _ I h) fun u s1 ⟨x,H1,I1,rx,d,o,kvs,ex,hd,q⟩=>?_);subst ex;obtain rfl:u=Value.ref d:=rx;obtain⟨hs,hgd,hx,es,ep,vs,hdt,hsz,kv,hm⟩:=I1.frzK hd;have hl:kvs.length=vs.length:=Paired.length kv;refine⟨hm.dictOf.typeIs,hm.dictOf.mapOf.noDict,?_⟩;have I2:aH X pins σ H1 { s1 with heap:=s1.heap.push { cls:=.type "dict_items",data:=.fields #[.ref d] } }:=I1.kept (t':=s1.toks) fun b ob q=>Heap.get?_push_of_some _ q;have fin:wpAny (model X.prog X.w) X.A (pyIter (.ref s1.heap.objs.size)) (G3 X pins σ (.Tuple elts kk tpos) R) X.xe { s1 with heap:=s1.heap.push { cls:=.type "dict_items",data:=.fields #[.ref d] } }:=by refine wpAny_pyIter_items (d:=d) (knd:=cb X.prog X.w) ⟨_,Heap.get?_push_size _ rfl,rfl,rfl⟩ (hm.push _) (zu (tk:=s1.toks) I2 _ (yZ _ hdt) ⟨.none,.none,?_⟩ q);rw[hl];exact Heap.get?_push_size _ rfl
 show wpAny _ _ (callWith cpos (.builtin "dict.items") [.ref d] [] []) _ X.xe s1;exact method_meetsIn F.slot_dict_items F.entry_dict_items rfl (PySem.evalArgs_none ⟨rfl,hm.dictOf.typeIs,F.args_dict_items_1 _,_,meets_dict_items (cb X.prog X.w) d hs,⟨vs,hm.dictOf⟩,fin⟩)
end
def HH(K:W.Frag)(a:Addr):It:=⟨fun i H=>∃(xs:List V)(x:V),aV K H a xs/\xs[i]?=some x,fun i H v H'=>∃T x,v=.ref T/\H T=none/\H'=aI H T (.tup [.int (i:Nat),x])/\∀xs,aV K H a xs->xs[i]?=some x,fun i H=>∃xs:List V,aV K H a xs/\xs.length<=i⟩
theorem AY{P:Program}{w:World}{K:W.Frag}{elts:List Expr}{kk:Nat}{tpos:Pos}(a e it:Addr):wF P w K (.Tuple elts kk tpos) (HH K a) [e,it] e (fun i h=>(∃old,IsEnum h e it ((i:Nat):Int) old)/\h.IsListIter it a i/\e≠it) where
 mem:=by simp
 obj:=fun i h st b hb=>by
  obtain⟨⟨old,he⟩,⟨o,ho,hc,hd⟩,_⟩:=st;have e':b=e\/b=it:=by simpa using hb
  rcases e' with z|z
  ·rw[z];exact⟨_,he,fun v q=>nomatch q⟩
  ·rw[z];exact⟨o,ho,fun v q=>by rw[hd]at q;cases q⟩
 keep:=fun i h h' st k=>let⟨⟨old,he⟩,hi,hne⟩:=st;⟨⟨old,k e (by simp) _ he⟩,hi.at fun o q=>k it (by simp) o q,hne⟩
 item:=by
  intro X hP hw hK hc i pins s σ H E I hf st hg;subst hP hw hK;obtain⟨⟨old,he⟩,hit,hne⟩:=st;obtain⟨xs,x,hq,hx⟩:=hg;obtain⟨its,rv,p,hz⟩:=I.list hq;obtain⟨u,hu,ru⟩:=rv.get hx;have hel:e<s.heap.objs.size:=Heap.lt_size he;have hil:it<s.heap.objs.size:=by obtain⟨_,q,_⟩:=hit;exact Heap.lt_size q
  refine wpAny_pyNext_enum_item he hit p.isList (x:=u) (by simpa using hu) hne fun h' ho hit' hT hsz hk=>?_;refine⟨_,rfl,wpAny_letOwnedTupleGo_enum (s:={ s with heap:=h',toks:=s.toks+1 }) ho fun h'' he' sb=>?_⟩;have hT2:h''.get? s.heap.objs.size=some { cls:=.type "tuple",data:=.seq #[.int i s.toks,u] }:=(sb.2 _ (Nat.ne_of_gt hel)).trans hT;have new:cF X.prog X.w (aI H s.heap.objs.size (.tup [.int (i:Nat),x])) h'' s.heap.objs.size (.tup [.int (i:Nat),x]):=⟨by show 2<=sizeLine;decide,[.int i s.toks,u],.cons ⟨_,rfl⟩ (.cons ru .nil),⟨_,hT2,rfl,_,rfl⟩⟩
  have I1:aH X pins σ (aI H s.heap.objs.size (.tup [.int (i:Nat),x])) { s with heap:=h'',toks:=s.toks+1 }:=I.turnedNew (ch:=[e,it]) (fun b ob hb q=>(sb.2 b (fun z=>hb (by simp[z]))).trans (hk b ob (fun z=>hb (by simp[z])) (fun z=>hb (by simp[z])) q)) hf (Nat.le_refl _) new;refine⟨.ref s.heap.objs.size,_,I1,rfl,⟨_,x,rfl,I.hok.fresh (Nat.le_refl _),rfl,fun ys hy=>by rw[I.list_inj hy hq];exact hx⟩,⟨⟨u,?_⟩,hit'.at fun o q=>(sb.2 it (Ne.symm hne)).trans q,hne⟩,fun b hb=>?_⟩
  ·have e1:((i+1:Nat):Int)=(i:Int)+1:=by omega
   rw[e1];exact he'
  ·have hb':b<s.heap.objs.size:=by
    have e':b=e\/b=it:=by simpa using hb
    rcases e' with z|z
    ·rw[z];exact hel
    ·rw[z];exact hil
   rw[ai (Nat.ne_of_lt hb')];exact(hf b hb).1
 done:=by intro X hP hw hK hc i pins s σ H E I hf st hg;subst hP hw hK;obtain⟨⟨old,he⟩,hit,hne⟩:=st;obtain⟨xs,hq,hx⟩:=hg;obtain⟨its,rv,p,hz⟩:=I.list hq;obtain⟨f0,f1,f2,f3,f4,f5⟩:=hf it (by simp);have hl:=rv.length;exact wpAny_pyNext_enum_end (I.ok.hd hc) he hit p.isList (by simp;omega) fun h' eb=>⟨rfl,I.turned (t':=s.toks) (fun b o hb q=>eb b o hb q) f0 f1 f3 f4 f5⟩
 self:=fun A i s Q E st h=>let⟨⟨_,he⟩,_⟩:=st;wpAny_pyIter_enum he h
def Ex(K:W.Frag)(ta:TA):TI:=fun σ H R=>ta σ H fun vs H1=>∃a xs,vs=[.ref a]/\aV K H1 a xs/\R (HH K a) H1
theorem z7 {X:Cx} {e:Expr} {ta:TA} {p pos tpos:Pos} {elts:List Expr} {kk:Nat} (hg:Gl X "enumerate") (hm:X.mg "enumerate"=none) (ha:PA X [e] ta) (hs:starEach [e] X.env=[(false,eval e X.env)]:=by rfl) :PI X (.Tuple elts kk tpos) (.Call (.Name "enumerate" p) [e] [] pos) (Ex X.K ta):=by
 intro pins s σ H R I h;refine Call_ (lQ I hg hm boot_enumerate (PyProof.Rows.callWith_type1 (cA (ha pos pins s σ H _ I h) fun us s1⟨vs,H1,I1,r1,q1⟩=>?_) hs rfl));obtain⟨a,xs,ex,hq,q⟩:=q1;subst ex;cases r1 with
 |cons r rr=>
  cases rr;cases r;obtain⟨its,rv,p',hz⟩:=I1.list hq;refine call_enumerate_list p'.isList fun h' he hit hsz hk=>wpAny_pyIter_enum he ?_;have I2:aH X pins σ H1 { s1 with heap:=h' }:=I1.kept (t':=s1.toks) hk;refine⟨s1.heap.objs.size+1,[s1.heap.objs.size+1,s1.heap.objs.size],_,_,H1,rfl,I2,AY a (s1.heap.objs.size+1) s1.heap.objs.size,⟨⟨.none,he⟩,hit,Nat.succ_ne_self _⟩,fun b hb=>?_,q⟩;have e':b=s1.heap.objs.size+1\/b=s1.heap.objs.size:=by simpa using hb
  have hle:s1.heap.objs.size<=b:=by
   rcases e' with z|z
   ·rw[z];exact Nat.le_add_right _ _
   ·rw[z];exact Nat.le_refl _
  exact I1.fpOk hle (I1.hok.fresh hle)
end L2
section
namespace Bits
open PySem PyProof.Rows
theorem qM(m:Nat):∀n:Nat,(m^^^n)+2*(m&&&n)=m+n:=by
 induction m using Nat.strongRecOn with
 |_ m ih=>
  intro n;by_cases h0:m=0
  ·subst h0;simp
  ·have ih':=ih (m/2) (by omega) (n/2);rw[<-Nat.xor_div_two,<-Nat.and_div_two]at ih';have o1:=@Nat.xor_mod_two_eq_one m n;have a1:=@Nat.and_mod_two_eq_one m n;omega
theorem bitXor_pp{x y:Int}(hx:0<=x)(hy:0<=y):Builtin.bitXor x y=((x.toNat^^^y.toNat:Nat):Int):=by have e:=qM x.toNat y.toNat;rw[bitXor_and,bitAnd_pp hx hy];omega
theorem bitOr_pp{x y:Int}(hx:0<=x)(hy:0<=y):Builtin.bitOr x y=((x.toNat|||y.toNat:Nat):Int):=by have e:=nat_or_add_and x.toNat y.toNat;rw[bitOr_and,bitAnd_pp hx hy];omega
end Bits
end
namespace L2
open PySem PySem.Spec PyProof.Rows
def bh(s:Stmt)(j:Nat):Stmt:=match s with
 |.ClassDef _ _ _ body _ _ _ _ _ _ _=>body.getD j (.Pass ⟨0,0,0,0⟩)
 |_=>.Pass ⟨0,0,0,0⟩
def fQ(s:Stmt):Arguments:=match s with
 |.FunctionDef _ a _ _ _ _ _ _ _ _=>a
 |_=>{ posonlyargs:=[],args:=[],vararg:=none,kwonlyargs:=[],kw_defaults:=[],kwarg:=none,defaults:=[] }
def d_(s:Stmt):List Stmt:=match s with
 |.FunctionDef _ _ b _ _ _ _ _ _ _=>b
 |_=>[]
def aw(s:Stmt):Scope:=match s with
 |.FunctionDef _ _ _ _ _ _ sc _ _ _=>sc
 |_=>{ kind:=.function,names:=[],isGenerator:=false,isCoroutine:=false }
abbrev E0:XK:=fun _ _ _=>False
structure dB(K:W.Frag)(x qual:Str)(st:Stmt)(f:Addr)(fd:FuncData):Prop where
 ex:∃(oc:Value)(od:Option Addr)(kV doc pm:Value)(an:Option Addr)(cdv ct:Value)(osl:Array (Option Value)),
  fd=W.fnOf x qual (fQ st) (d_ st) (aw st) .none kV doc pm an cdv ct/\K.lookup f=some ⟨oc,od,.func fd,osl⟩/\W.codeIn K cdv qual=true
 kp:W.keepIn K (.ref f)=true
section
variable{P:Program}{w:World}{K:W.Frag}{mg:Str->Option Value}{base:Heap}
theorem dB.binds{x qual:Str}{st:Stmt}{f:Addr}{fd:FuncData}{ps:List Str}(F:dB K x qual st f fd) (h:∀(kV doc pm:Value)(an:Option Addr)(cdv ct:Value)(us:List Value),us.length=ps.length->bindArgs (W.fnOf x qual (fQ st) (d_ st) (aw st) .none kV doc pm an cdv ct) ⟨us,[]⟩=pure (ps.zip us)):jr K fd ps []:=by obtain⟨oc,od,kV,doc,pm,an,cdv,ct,osl,rfl,lk,hcd⟩:=F.ex;exact .all (h kV doc pm an cdv ct)
theorem yL{x qual:Str}{st:Stmt}{f:Addr}{oc:Value}{od an:Option Addr}{osl:Array (Option Value)}{kV doc pm cdv ct:Value}(l:K.lookup f=some ⟨oc,od,.func (W.fnOf x qual (fQ st) (d_ st) (aw st) .none kV doc pm an cdv ct),osl⟩) (c:W.codeIn K cdv qual=true) (k:W.keepIn K (.ref f)=true):dB K x qual st f (W.fnOf x qual (fQ st) (d_ st) (aw st) .none kV doc pm an cdv ct):=⟨⟨oc,od,kV,doc,pm,an,cdv,ct,osl,rfl,l,c⟩,k⟩
end
theorem nj{A:Around}{k:Nat}(hr:dZ k A):A.units+1<cLine:=Nat.lt_of_le_of_lt (Nat.add_le_add_left (by decide:1<=64) _) hr.units
section
variable{X:Cx}
theorem pv (i:Nat) {x:Str} {pos:Pos} (hN:X.N[i]?=some x:=by rfl) (hv:F7 X.env.scope x:=by first|exact Or.inl rfl|exact Or.inr (Or.inl rfl)|exact Or.inr (Or.inr rfl)) (hd:(x==("__debug__":Str))=false:=by decide) (hcd:(x==("__classdict__":Str))=false:=by decide):PE X (.Name x pos) (aZ i):=E7 hN hv hd hcd
theorem BG:m7 X (.builtin "len") (fun xs H Q=>∃a kvs,xs=[V.ref a]/\H a=some (.dK kvs)/\Q (.int kvs.length) H):=by intro pins s σ H xs us Q I r h;obtain⟨a,kvs,rfl,ha,q⟩:=h;obtain⟨u,rfl,ru⟩:=zM r;cases ru;exact GG I (.inl ha) fun t s' I'=>⟨.int kvs.length,H,I',⟨t,rfl⟩,q⟩
end
def aB(H H':Hp):Prop:=∀b o,H b=some o->H' b=some o
theorem aB.refl(H:Hp):aB H H:=fun _ _ h=>h
theorem aB.trans{H H1 H2:Hp}(a:aB H H1)(b:aB H1 H2):aB H H2:=fun c o h=>b c o (a c o h)
theorem aB.free{H H':Hp}(e:aB H H'){l:Addr}(h:H' l=Option.none):H l=Option.none:=by
 cases q:H l with
 |none=>rfl
 |some o=>rw[e l o q]at h;cases h
theorem aB.seq{K:W.Frag}{H H':Hp}{a:Addr}{xs:List V}(e:aB H H')(h:aV K H a xs):aV K H' a xs:=by
 rcases h with(h|⟨o,h⟩)|h
 ·exact .inl (.inl (e _ _ h))
 ·exact .inl (.inr ⟨o,e _ _ h⟩)
 ·exact .inr h
section
variable{κ:Type}[DecidableEq κ]
theorem CG{kvs:List (κ×V)}{k:κ}(h:bQ kvs k=none):¬k∈kvs.map (·.1):=by intro m;obtain⟨p,hp,e⟩:=List.mem_map.mp m;have q:(kvs.any fun kv=>decide (kv.1=k))=true:=List.any_eq_true.mpr ⟨p,hp,decide_eq_true e⟩;rw[ff,h]at q;exact absurd q (by simp)
theorem Ec{kvs:List (κ×V)}{k:κ}{v:V}(h:bQ kvs k=some v):k∈kvs.map (·.1):=by
 have q:(kvs.any fun kv=>decide (kv.1=k))=true:=by rw[ff,h];all_goals rfl
 obtain⟨p,hp,e⟩:=List.any_eq_true.mp q;exact List.mem_map.mpr ⟨p,hp,of_decide_eq_true e⟩
theorem Ay:∀{l:List κ}{k:κ},l.Nodup->¬k∈l->(l++[k]).Nodup
 |[],k,_,_=>by simp
 |a::r,k,h,hk=>by
  obtain⟨h1,h2⟩:=List.nodup_cons.mp h;show(a::(r++[k])).Nodup;refine List.nodup_cons.mpr ⟨fun m=>?_,Ay h2 fun m=>hk (List.mem_cons.mpr (Or.inr m))⟩;rcases List.mem_append.mp m with q|q
  ·exact h1 q
  ·exact hk (List.mem_cons.mpr (Or.inl (List.mem_singleton.mp q).symm))
end
theorem oi{xs:List V}{z:Int}{j:Nat}{v:V}(e:z=(j:Int))(h:xs[j]?=some v):wL xs z=some v:=by rw[e];exact vt h
theorem wM{α:Type}{l:List α}(hN:l.Nodup){i j:Nat}{x:α}(a:l[i]?=some x)(b:l[j]?=some x):i=j:=by obtain⟨h1,e1⟩:=List.getElem?_eq_some_iff.mp a;obtain⟨h2,e2⟩:=List.getElem?_eq_some_iff.mp b;exact(List.getElem_inj hN).mp (e1.trans e2.symm)
theorem aB.made{H H1:Hp}{x dx C:Addr}(nx:H x=Option.none)(nd:H dx=Option.none)(k:∀b o,(aI (aI H dx (.own x)) x (.ins C dx [])) b=some o->b≠x->H1 b=some o):aB H H1:=fun b o e=>k b o (by rw[ai (au e nx),ai (au e nd)];exact e) (au e nx)
end L2
section
namespace L2
open PySem PySem.Spec PyProof.Rows
open PySem.W (WData Codec OpenSpec Well WellAll ReadsW ReadsAllW)
mutual
inductive Dw(K:W.Frag)(H:Hp):V->WData->Prop
 |non:Dw K H .non .none
 |bl (b:Bool):Dw K H (.bl b) (.bool b)
 |int (i:Int):Dw K H (.int i) (.int i)
 |str (x:Str):Dw K H (.str x) (.str x)
 |byt (b:Array UInt8):Dw K H (.byt b) (.bytes b.toList)
 |lst {a:Addr} {xs:List V} {ds:List WData}:aV K H a xs->lM K H xs ds->Dw K H (.ref a) (.list ds)
 |tup {a:Addr} {xs:List V} {ds:List WData}:i6 K H a xs->lM K H xs ds->Dw K H (.ref a) (.tuple ds)
inductive lM(K:W.Frag)(H:Hp):List V->List WData->Prop
 |nil:lM K H [] []
 |cons {v:V} {vs:List V} {d:WData} {ds:List WData}:Dw K H v d->lM K H vs ds->lM K H (v::vs) (d::ds)
end
theorem Ae{K:W.Frag}{H:Hp}:∀ns:List Int,lM K H (ns.map V.int) (ns.map WData.int)
 |[]=>.nil
 |n::r=>.cons (.int n) (Ae r)
theorem zO{K:W.Frag}{H:Hp}:∀(ns:List Int)(xs:List V),lM K H xs (ns.map WData.int)->xs=ns.map V.int
 |[],xs,h=>by cases h;rfl
 |n::r,xs,h=>by
  cases h with
  |cons h1 h2=>cases h1;rw[zO r _ h2]<;>rfl
section
variable{P:Program}{w:World}{K:W.Frag}{H:Hp}{h:Heap}{R:W.WRecords}{cl:Str->Option Addr}
theorem Fw {a:Addr} {xs:List V} (hok:jb P w H h) (KX:K.In h) (q:aV K H a xs):∃(its:List Value) (o:Obj) (n:Nat),aQ xs its/\h.get? a=some o/\o.cls=.type "list"/\o.data=.seq its.toArray n:=by
 rcases q with q|⟨o,its,n,e,hc,_,hd,_,hv⟩
 ·obtain⟨_,its,n,hv,e⟩:=(show cF P w H h a (.lst xs)from q.ok hok)
  exact⟨its,_,n,hv,e,rfl,rfl⟩
 ·exact⟨its.toList,o,n,hv,KX _ _ e,hc,by simp[hd]⟩
theorem FG {a:Addr} {xs:List V} (hok:jb P w H h) (KX:K.In h) (q:i6 K H a xs):∃(its:List Value) (o:Obj) (n:Nat),aQ xs its/\h.get? a=some o/\o.cls=.type "tuple"/\o.data=.seq its.toArray n:=by
 rcases q with q|⟨o,its,n,e,hc,hd,_,hv⟩
 ·obtain⟨_,its,hv,o,e,hc,n,hd⟩:=(show cF P w H h a (.tup xs)from q.ok hok)
  exact⟨its,o,n,hv,e,hc,hd⟩
 ·exact⟨its.toList,o,n,hv,KX _ _ e,hc,by simp[hd]⟩
mutual
theorem Dw.reads(hok:jb P w H h)(KX:K.In h):∀(d:WData)(v:V)(u:Value),Dw K H v d->br v u->∃as,ReadsW R cl h u d as
 |.none,_,_,x,r=>by cases x;cases r;exact⟨_,ReadsW.none⟩
 |.bool b,_,_,x,r=>by cases x;cases r;exact⟨_,ReadsW.bool b⟩
 |.int i,_,_,x,r=>by cases x;obtain⟨t,rfl⟩:=r;exact⟨_,ReadsW.int i t⟩
 |.str s,_,_,x,r=>by cases x;obtain⟨t,rfl⟩:=r;exact⟨_,ReadsW.str s t⟩
 |.bytes b,_,_,x,r=>by cases x;obtain⟨t,rfl⟩:=r;exact⟨_,ReadsW.bytes _ t⟩
 |.list ds,_,_,x,r=>by
  cases x with
  |lst hs ha=>cases r;obtain⟨its,o,n,rv,ho,hc,hd⟩:=Fw hok KX hs;obtain⟨as,hr⟩:=Dw.readsAll hok KX ds _ its ha rv;exact⟨_,ReadsW.list ho hc hd hr⟩
 |.tuple ds,_,_,x,r=>by
  cases x with
  |tup hs ha=>cases r;obtain⟨its,o,n,rv,ho,hc,hd⟩:=FG hok KX hs;obtain⟨as,hr⟩:=Dw.readsAll hok KX ds _ its ha rv;exact⟨_,ReadsW.tuple ho hc hd hr⟩
 |.float _,_,_,x,_=>by cases x
 |.dict _,_,_,x,_=>by cases x
 |.bytearray _,_,_,x,_=>by cases x
 |.set _,_,_,x,_=>by cases x
 |.frozenset _,_,_,x,_=>by cases x
 |.obj _ _,_,_,x,_=>by cases x
theorem Dw.readsAll(hok:jb P w H h)(KX:K.In h):∀(ds:List WData)(vs:List V)(us:List Value),lM K H vs ds->aQ vs us->∃as,ReadsAllW R cl h us ds as
 |[],_,_,x,r=>by cases x;cases r;exact⟨_,ReadsAllW.nil⟩
 |d::ds,_,_,x,r=>by
  cases x with
  |cons h1 h2=>
   cases r with
   |cons r1 r2=>obtain⟨as,q1⟩:=Dw.reads hok KX d _ _ h1 r1;obtain⟨bs,q2⟩:=Dw.readsAll hok KX ds _ _ h2 r2;exact⟨_,ReadsAllW.cons q1 q2⟩
end
end
mutual
def Ak:WData->Bool
 |.none=>true
 |.bool _=>true
 |.int _=>true
 |.str _=>true
 |.bytes _=>true
 |.list xs=>qI xs
 |.tuple xs=>qI xs
 |_=>false
def qI:List WData->Bool
 |[]=>true
 |x::r=>Ak x&&qI r
end
theorem xh{α:Type}{f:α->WData}(h:∀a,Ak (f a)=true):∀l:List α,qI (l.map f)=true
 |[]=>rfl
 |x::r=>by show(Ak (f x)&&qI (r.map f))=true;rw[h x,xh h r]<;>rfl
theorem lB:∀(c:Codec)(a:c.denote),Ak (c.enc a)=true
 |.unit,_=>rfl
 |.bool,_=>rfl
 |.int _ _,_=>rfl
 |.nat _ _,_=>rfl
 |.u8,_=>rfl
 |.bytes _ _,_=>rfl
 |.text _ _ _ _,_=>rfl
 |.list _ _ c,a=>xh (fun x=>lB c x) a
 |.pair c d,a=>by show(Ak (c.enc a.1)&&(Ak (d.enc a.2)&&true))=true;rw[lB c a.1,lB d a.2]<;>rfl
 |.triple c d e,a=>by show(Ak (c.enc a.1)&&(Ak (d.enc a.2.1)&&(Ak (e.enc a.2.2)&&true)))=true;rw[lB c a.1,lB d a.2.1,lB e a.2.2]<;>rfl
 |.option c,none=>rfl
 |.option c,some x=>lB c x
theorem uh:∀(cs:List Codec)(a:Codec.denoteAll cs),qI (Codec.encAll cs a)=true
 |[],_=>rfl
 |c::cs,a=>by show(Ak (c.enc a.1)&&qI (Codec.encAll cs a.2))=true;rw[lB c a.1,uh cs a.2]<;>rfl
theorem nE:∀{xs:List WData}{d:WData},d∈xs->d.weight<=WData.weightAll xs
 |[],d,h=>absurd h (by simp)
 |x::r,d,h=>by
  show d.weight<=x.weight+1+WData.weightAll r;rcases List.mem_cons.mp h with e|m
  ·rw[e];omega
  ·have z:=nE m;omega
def wQ:Value->V
 |.none=>.non
 |.bool b=>.bl b
 |.int i _=>.int i
 |.str x _=>.str x
 |.bytes b _=>.byt b
 |.ref a=>.ref a
 |_=>.non
def AZ(A:List Addr):Value->Prop
 |.none=>True
 |.bool _=>True
 |.int _ _=>True
 |.str _ _=>True
 |.bytes _ _=>True
 |.ref a=>a∈A
 |_=>False
theorem AZ.mono{A B:List Addr}(h:∀a∈A,a∈B):∀{u:Value},AZ A u->AZ B u:=fun{u}x=>by
 cases u with
 |ref a=>exact h a x
 |none=>trivial
 |bool b=>trivial
 |int i t=>trivial
 |str s t=>trivial
 |bytes b t=>trivial
 |_=>exact False.elim x
theorem De{A:List Addr}{u:Value}(x:AZ A u):br (wQ u) u:=by
 cases u with
 |ref a=>rfl
 |none=>rfl
 |bool b=>rfl
 |int i t=>exact⟨t,rfl⟩
 |str s t=>exact⟨t,rfl⟩
 |bytes b t=>exact⟨t,rfl⟩
 |_=>exact False.elim x
theorem jt{A:List Addr}:∀{vs:List Value},(∀u∈vs,AZ A u)->aQ (vs.map wQ) vs
 |[],_=>.nil
 |u::r,h=>.cons (De (h u (List.mem_cons_self ..))) (jt fun x hx=>h x (List.mem_cons_of_mem _ hx))
def j9(h:Heap)(A:List Addr)(a:Addr):Prop:=∃vs:List Value,vs.length<=sizeLine/\(∀u∈vs,AZ A u)/\(h.get? a=some { cls:=.type "list",data:=.seq vs.toArray }\/h.get? a=some { cls:=.type "tuple",data:=.seq vs.toArray })
theorem j9.mono{h:Heap}{A B:List Addr}{a:Addr}(k:∀a∈A,a∈B)(x:j9 h A a):j9 h B a:=by obtain⟨vs,h1,h2,h3⟩:=x;exact⟨vs,h1,fun u hu=>(h2 u hu).mono k,h3⟩
theorem iI{P:Params}{h:Heap}:∀{vs:List Value}{ds:List WData},WellAll P h vs ds->vs.length=ds.length
 |_,_,.nil=>rfl
 |_,_,.cons _ b=>by show _+1=_+1;rw[iI b]
theorem uR {P:Params} {h:Heap} {v:Value} {ds:List WData} (x:Well P h v (.list ds)):∃(a:Addr) (vs:List Value),v=.ref a/\h.get? a=some { cls:=.type "list",data:=.seq vs.toArray }/\WellAll P h vs ds:=by
 cases x with
 |list ho hall=>exact⟨_,_,rfl,ho,hall⟩
theorem tG {P:Params} {h:Heap} {v:Value} {ds:List WData} (x:Well P h v (.tuple ds)):∃(a:Addr) (vs:List Value),v=.ref a/\h.get? a=some { cls:=.type "tuple",data:=.seq vs.toArray }/\WellAll P h vs ds:=by
 cases x with
 |tuple ho hall=>exact⟨_,_,rfl,ho,hall⟩
theorem ux{P:Params}{h:Heap}{us:List Value}{d:WData}{ds:List WData}(x:WellAll P h us (d::ds)):∃(v:Value)(vs:List Value),us=v::vs/\Well P h v d/\WellAll P h vs ds:=by
 cases x with
 |cons a b=>exact⟨_,_,rfl,a,b⟩
theorem Au{n:Nat}(h:n<=1048576):n<=sizeLine:=Nat.le_trans h (by decide)
section
variable{P:Params}{h:Heap}
mutual
theorem BS:∀(d:WData)(v:Value),Well P h v d->Ak d=true->d.weight<=1048576->∃A:List Addr,AZ A v/\∀a∈A,j9 h A a
 |.none,_,x,_,_=>by cases x;exact⟨[],trivial,fun a m=>absurd m (by simp)⟩
 |.bool b,_,x,_,_=>by cases x;exact⟨[],trivial,fun a m=>absurd m (by simp)⟩
 |.int i,_,x,_,_=>by cases x;exact⟨[],trivial,fun a m=>absurd m (by simp)⟩
 |.str s,_,x,_,_=>by cases x;exact⟨[],trivial,fun a m=>absurd m (by simp)⟩
 |.bytes b,_,x,_,_=>by cases x;exact⟨[],trivial,fun a m=>absurd m (by simp)⟩
 |.list ds,_,x,p,z=>by
  obtain⟨a,vs,rfl,ho,hall⟩:=uR x;have z2:WData.weightAll ds<=1048576:=z;obtain⟨A,h1,h2⟩:=oX ds _ hall p fun d hd=>Nat.le_trans (nE hd) z2;have k:∀b∈A,b∈a::A:=fun b hb=>List.mem_cons_of_mem _ hb;refine⟨a::A,List.mem_cons_self ..,fun b hb=>?_⟩;rcases List.mem_cons.mp hb with e|m
  ·rw[e];exact⟨vs,Au (by rw[iI hall];exact Nat.le_trans (W.length_le_weightAllW ds) z2),fun u hu=>(h1 u hu).mono k,.inl ho⟩
  ·exact(h2 b m).mono k
 |.tuple ds,_,x,p,z=>by
  obtain⟨a,vs,rfl,ho,hall⟩:=tG x;have z2:WData.weightAll ds<=1048576:=z;obtain⟨A,h1,h2⟩:=oX ds _ hall p fun d hd=>Nat.le_trans (nE hd) z2;have k:∀b∈A,b∈a::A:=fun b hb=>List.mem_cons_of_mem _ hb;refine⟨a::A,List.mem_cons_self ..,fun b hb=>?_⟩;rcases List.mem_cons.mp hb with e|m
  ·rw[e];exact⟨vs,Au (by rw[iI hall];exact Nat.le_trans (W.length_le_weightAllW ds) z2),fun u hu=>(h1 u hu).mono k,.inr ho⟩
  ·exact(h2 b m).mono k
 |.float _,_,_,p,_=>Bool.noConfusion (show false=true from p)
 |.dict _,_,_,p,_=>Bool.noConfusion (show false=true from p)
 |.bytearray _,_,_,p,_=>Bool.noConfusion (show false=true from p)
 |.set _,_,_,p,_=>Bool.noConfusion (show false=true from p)
 |.frozenset _,_,_,p,_=>Bool.noConfusion (show false=true from p)
 |.obj _ _,_,_,p,_=>Bool.noConfusion (show false=true from p)
theorem oX:∀(ds:List WData)(vs:List Value),WellAll P h vs ds->qI ds=true->(∀d∈ds,d.weight<=1048576)->∃A:List Addr,(∀u∈vs,AZ A u)/\∀a∈A,j9 h A a
 |[],_,x,_,_=>by cases x;exact⟨[],fun u m=>absurd m (by simp),fun a m=>absurd m (by simp)⟩
 |d::ds,_,x,p,z=>by
  obtain⟨v,vs,rfl,x1,x2⟩:=ux x;have q:Ak d=true/\qI ds=true:=Bool.and_eq_true_iff.mp p;obtain⟨A,a1,a2⟩:=BS d v x1 q.1 (z d (List.mem_cons_self ..));obtain⟨B,b1,b2⟩:=oX ds vs x2 q.2 fun e he=>z e (List.mem_cons_of_mem _ he);have kA:∀b∈A,b∈A++B:=fun b hb=>List.mem_append.mpr (.inl hb);have kB:∀b∈B,b∈A++B:=fun b hb=>List.mem_append.mpr (.inr hb);refine⟨A++B,fun u hu=>?_,fun b hb=>?_⟩
  ·rcases List.mem_cons.mp hu with e|m
   ·rw[e];exact a1.mono kA
   ·exact(b1 u m).mono kB
  ·rcases List.mem_append.mp hb with m|m
   ·exact(a2 b m).mono kA
   ·exact(b2 b m).mono kB
end
end
def D6(o:Obj):Option HO:=match o.data with
 |.seq vs _=>if(o.cls==Value.type "list")=true then some (.frz o (.lst (vs.toList.map wQ)))else some (.frz o (.tup (vs.toList.map wQ)))
 |_=>none
def jy(K:W.Frag)(h:Heap)(A:List Addr):Hp:=fun b=>if b∈A then(if(K.lookup b).isNone=true then(h.get? b).bind D6 else none)else none
def zT(H:Hp):Prop:=∀b,H b=none\/∃o u,H b=some (.frz o u)
theorem w_ (vs:List Value):D6 { cls:=.type "list",data:=.seq vs.toArray }=some (.frz { cls:=.type "list",data:=.seq vs.toArray } (.lst (vs.map wQ))):=by show(if(Value.type "list"==Value.type "list")=true then some (HO.frz { cls:=.type "list",data:=.seq vs.toArray } (.lst (vs.toArray.toList.map wQ)))else some (HO.frz { cls:=.type "list",data:=.seq vs.toArray } (.tup (vs.toArray.toList.map wQ))))=_;rw[if_pos (beq_self_eq_true _)]
theorem wN (vs:List Value):D6 { cls:=.type "tuple",data:=.seq vs.toArray }=some (.frz { cls:=.type "tuple",data:=.seq vs.toArray } (.tup (vs.map wQ))):=by show(if(Value.type "tuple"==Value.type "list")=true then some (HO.frz { cls:=.type "tuple",data:=.seq vs.toArray } (.lst (vs.toArray.toList.map wQ)))else some (HO.frz { cls:=.type "tuple",data:=.seq vs.toArray } (.tup (vs.toArray.toList.map wQ))))=_;rw[if_neg (by decide)]
section
variable{P:Program}{w:World}{K:W.Frag}{h:Heap}{A:List Addr}
theorem qW{b:Addr}{o:Obj}(hb:b∈A)(hk:K.lookup b=none)(e:h.get? b=some o):jy K h A b=D6 o:=by unfold jy;rw[if_pos hb,hk,if_pos (show(none:Option Obj).isNone=true from rfl),e]<;>rfl
theorem D3{b:Addr}{u:HO}(q:jy K h A b=some u):b∈A/\K.lookup b=none:=by
 unfold jy at q;by_cases hb:b∈A
 ·rw[if_pos hb]at q;cases hk:K.lookup b with
  |none=>exact⟨hb,rfl⟩
  |some o=>rw[hk,if_neg (by simp)]at q;cases q
 ·rw[if_neg hb]at q;cases q
theorem rn(ar:∀a∈A,j9 h A a){b:Addr}{u:HO}(q:jy K h A b=some u):K.lookup b=none/\∃vs:List Value,vs.length<=sizeLine/\(∀u∈vs,AZ A u)/\((h.get? b=some { cls:=.type "list",data:=.seq vs.toArray }/\u=.frz { cls:=.type "list",data:=.seq vs.toArray } (.lst (vs.map wQ)))\/(h.get? b=some { cls:=.type "tuple",data:=.seq vs.toArray }/\u=.frz { cls:=.type "tuple",data:=.seq vs.toArray } (.tup (vs.map wQ)))):=by
 obtain⟨hb,hk⟩:=D3 q;obtain⟨vs,h1,h2,h3⟩:=ar b hb;refine⟨hk,vs,h1,h2,?_⟩;rcases h3 with e|e
 ·rw[qW hb hk e,w_]at q;exact .inl ⟨e,(Option.some.inj q).symm⟩
 ·rw[qW hb hk e,wN]at q;exact .inr ⟨e,(Option.some.inj q).symm⟩
theorem AL(ar:∀a∈A,j9 h A a):zT (jy K h A):=fun b=>by
 cases q:jy K h A b with
 |none=>exact .inl rfl
 |some u=>
  obtain⟨_,vs,_,_,⟨_,e⟩|⟨_,e⟩⟩:=rn ar q
  ·exact .inr ⟨_,_,by rw[e]⟩
  ·exact .inr ⟨_,_,by rw[e]⟩
theorem Ej(ar:∀a∈A,j9 h A a):jb P w (jy K h A) h:=fun b u q=>by
 obtain⟨_,vs,h1,h2,⟨e,rfl⟩|⟨e,rfl⟩⟩:=rn ar q
 ·exact⟨e,by rw[List.length_map];exact h1,vs,_,jt h2,e⟩
 ·exact⟨e,by rw[List.length_map];exact h1,vs,jt h2,_,e,rfl,_,rfl⟩
theorem rh{c c':Value}{vs us:List Value}(e:(some { cls:=c,data:=.seq vs.toArray }:Option Obj)=some { cls:=c',data:=.seq us.toArray }):c=c'/\vs=us:=by
 have e1:=Option.some.inj e;have e2:c=c':=congrArg Obj.cls e1;have e3:Data.seq vs.toArray=Data.seq us.toArray:=congrArg Obj.data e1;injection e3 with e4
 refine⟨e2,?_⟩;have e5:=congrArg Array.toList e4;simpa using e5
theorem Hl (KX:K.In h) (ar:∀a∈A,j9 h A a) {a:Addr} {vs:List Value} (ha:a∈A) (e:h.get? a=some { cls:=.type "list",data:=.seq vs.toArray }):(∀u∈vs,AZ A u)/\aV K (jy K h A) a (vs.map wQ):=by
 obtain⟨us,h1,h2,h3⟩:=ar a ha
 have hu:us=vs:=by
  rcases h3 with q|q
  ·rw[e]at q;exact(rh q).2.symm
  ·rw[e]at q;exact absurd (Value.type.inj (rh q).1) (by decide)
 subst hu;refine⟨h2,?_⟩;cases hk:K.lookup a with
 |none=>exact .inl (.inr ⟨_,by rw[qW ha hk e,w_]⟩)
 |some o=>have e2:=KX a o hk;rw[e]at e2;obtain rfl:=Option.some.inj e2;exact .inr ⟨_,us.toArray,_,hk,rfl,rfl,rfl,by rw[List.size_toArray];exact h1,by simpa using jt h2⟩
theorem Hq (KX:K.In h) (ar:∀a∈A,j9 h A a) {a:Addr} {vs:List Value} (ha:a∈A) (e:h.get? a=some { cls:=.type "tuple",data:=.seq vs.toArray }):(∀u∈vs,AZ A u)/\i6 K (jy K h A) a (vs.map wQ):=by
 obtain⟨us,h1,h2,h3⟩:=ar a ha
 have hu:us=vs:=by
  rcases h3 with q|q
  ·rw[e]at q;exact absurd (Value.type.inj (rh q).1) (by decide)
  ·rw[e]at q;exact(rh q).2.symm
 subst hu;refine⟨h2,?_⟩;cases hk:K.lookup a with
 |none=>exact .inl (.inr ⟨_,by rw[qW ha hk e,wN]⟩)
 |some o=>have e2:=KX a o hk;rw[e]at e2;obtain rfl:=Option.some.inj e2;exact .inr ⟨_,us.toArray,_,hk,rfl,rfl,by rw[List.size_toArray];exact h1,by simpa using jt h2⟩
mutual
theorem FC{Pm:Params}(KX:K.In h)(ar:∀a∈A,j9 h A a):∀(d:WData)(v:Value),Well Pm h v d->Ak d=true->AZ A v->Dw K (jy K h A) (wQ v) d
 |.none,_,x,_,_=>by cases x;exact .non
 |.bool b,_,x,_,_=>by cases x;exact .bl b
 |.int i,_,x,_,_=>by cases x;exact .int i
 |.str s,_,x,_,_=>by cases x;exact .str s
 |.bytes b,_,x,_,_=>by cases x;have z:=Dw.byt (K:=K) (H:=jy K h A) b.toArray;exact z
 |.list ds,_,x,p,hu=>by obtain⟨a,vs,rfl,ho,hall⟩:=uR x;obtain⟨h2,hs⟩:=Hl KX ar hu ho;exact .lst hs (vz KX ar ds _ hall p h2)
 |.tuple ds,_,x,p,hu=>by obtain⟨a,vs,rfl,ho,hall⟩:=tG x;obtain⟨h2,hs⟩:=Hq KX ar hu ho;exact .tup hs (vz KX ar ds _ hall p h2)
 |.float _,_,_,p,_=>Bool.noConfusion (show false=true from p)
 |.dict _,_,_,p,_=>Bool.noConfusion (show false=true from p)
 |.bytearray _,_,_,p,_=>Bool.noConfusion (show false=true from p)
 |.set _,_,_,p,_=>Bool.noConfusion (show false=true from p)
 |.frozenset _,_,_,p,_=>Bool.noConfusion (show false=true from p)
 |.obj _ _,_,_,p,_=>Bool.noConfusion (show false=true from p)
theorem vz{Pm:Params}(KX:K.In h)(ar:∀a∈A,j9 h A a):∀(ds:List WData)(vs:List Value),WellAll Pm h vs ds->qI ds=true->(∀u∈vs,AZ A u)->lM K (jy K h A) (vs.map wQ) ds
 |[],_,x,_,_=>by cases x;exact .nil
 |d::ds,_,x,p,hu=>by obtain⟨v,vs,rfl,x1,x2⟩:=ux x;have q:Ak d=true/\qI ds=true:=Bool.and_eq_true_iff.mp p;exact .cons (FC KX ar d v x1 q.1 (hu _ (List.mem_cons_self ..))) (vz KX ar ds vs x2 q.2 fun u m=>hu u (List.mem_cons_of_mem _ m))
end
end
theorem A_{P:Program}{w:World}{K:W.Frag}{mg mb:Str->Option Value}{CX:DB}{k:Nat}{fa:Addr}{fd:FuncData}{ps:List Str}{sp:Sp}{s₁:Shared}{vals:List Value}{ds:List WData}{R:W.WRecords}{cl:Str->Option Addr}{d0:WData} (KX:K.In s₁.heap) (hns:s₁.heap.Ns mainGlobals mg) (hb:s₁.heap.Ns builtinsNs mb) (hbb:∀x:Str,x≠"__name__"->mb x=bootBuiltins x) (hlim:s₁.heap.NoLimit) (hg:s₁.gens=#[]) (hwl:WellAll w.params s₁.heap vals ds) (hpl:qI ds=true) (hwt:∀d∈ds,d.weight<=1048576) (hr:dZ k callerA) (F:∀base:Heap,K.In base->base.Ns mainGlobals mg->bj P w K mg base CX k fa fd ps sp) (hbind:∀(s:Shared)(us:List Value),us.length=ps.length->BindsTo s fd ⟨us,[]⟩ (ps.zip us)) (hlen:ds.length=ps.length) (hsp:∀(H:Hp)(xs:List V),zT H->lM K H xs ds->sp xs H (fun v H'=>Dw K H' v d0) fun _ _ _=>False) (hCX:∀H e s',CX [] H s₁ (fun _ _ _=>False) e s'->False) :codeAny (model P w) callerA (.call (.ref fa) ⟨vals,[]⟩) (fun r s'=>∃u as,r=.ok (.ret u)/\ReadsW R cl s'.heap u d0 as/\OldK s₁.heap s'.heap/\s'.os=s₁.os/\AllBare s'.gens) s₁:=by
 obtain⟨A,ho,ar⟩:=oX ds vals hwl hpl hwt;have hO:zT (jy K s₁.heap A):=AL ar;have hok:jb P w (jy K s₁.heap A) s₁.heap:=Ej ar;have hS:=vz KX ar ds vals hwl hpl ho;have hV:=jt ho;have hK:∀b u,jy K s₁.heap A b=some u->K.lookup b=none:=fun b u q=>(rn ar q).1
 have noA:∀{b:Addr}{o:Obj}{es:Array DictEntry}{ep:Nat},s₁.heap.get? b=some o->o.data=.dict es ep->jy K s₁.heap A b=none:=fun{b o es ep}e d=>by
  cases q:jy K s₁.heap A b with
  |none=>rfl
  |some u=>
   obtain⟨_,vs,_,_,⟨e2,_⟩|⟨e2,_⟩⟩:=rn ar q
   ·rw[e2]at e;cases e;have d':Data.seq vs.toArray _=Data.dict es ep:=d;cases d'
   ·rw[e2]at e;cases e;have d':Data.seq vs.toArray _=Data.dict es ep:=d;cases d'
 generalize jy K s₁.heap A=H at hO hok hS hK noA;have base_of:∀{b:Addr}{o:Obj},s₁.heap.get? b=some o->H b=none->(u_ s₁.heap H).get? b=some o:=fun e n=>BQ e n;have nsK:∀{b:Addr}{m:Str->Option Value},s₁.heap.Ns b m->(u_ s₁.heap H).Ns b m:=fun{b m}⟨o,es,ep,e,d,r⟩=>⟨o,es,ep,base_of e (noA e d),d,r⟩
 have nK:∀b o,K.lookup b=some o->H b=none:=fun b o e=>by
  cases q:H b with
  |none=>rfl
  |some u=>rw[hK b u q]at e;cases e
 have hKb:K.In (u_ s₁.heap H):=fun b o e=>base_of (KX b o e) (nK b o e);have hM:Mod K mg (u_ s₁.heap H):=⟨hKb,nsK hns,⟨mb,nsK hb,hbb⟩,let⟨mc,h1,h2⟩:=hlim;⟨mc,nsK h1,h2⟩⟩
 have e0:yI P w K mg (u_ s₁.heap H) callerA [] s₁ H:=⟨rfl,hM,fun b o e=>Et e,Nat.le_of_eq (AW _ _),trivial,fun b hb=>absurd (show b∈([]:List Addr)from hb) (by simp),hok,.of_eq hg⟩
 have hl:vals.length=ps.length:=by rw[iI hwl];exact hlen
 refine codeAny_mono ((F _ hKb (nsK hns)).run callerA [] s₁ H ⟨vals,[]⟩ vals (vals.map wQ) _ _ hr e0 (hbind s₁ vals hl) hV (hsp H _ hO hS)) fun r s' x=>?_;cases r with
 |error e=>exact(hCX H e s' x).elim
 |ok fl=>
  cases fl with
  |next=>exact False.elim x
  |brk=>exact False.elim x
  |cont=>exact False.elim x
  |ret u=>
   obtain⟨v,H',os,bare,un,hok',r',q⟩:=x
   have kept:∀b o,s₁.heap.get? b=some o->s'.heap.get? b=some o:=fun b o e=>by
    cases q2:H b with
    |none=>exact un.keep b o e q2 (by intro z;exact absurd (show b∈([]:List Addr)from z) (by simp)) (by simp)
    |some u2=>
     rcases hO b with z|⟨ob,u3,z⟩
     ·rw[q2]at z;cases z
     ·have z2:=un.frzs b ob _ z;obtain⟨e1,_⟩:=hok b _ z;obtain⟨e2,_⟩:=hok' b _ z2;rw[e]at e1;cases e1;exact e2
   have KX':K.In s'.heap:=fun b o e=>kept b o (KX b o e);obtain⟨as,hrd⟩:=Dw.reads (R:=R) (cl:=cl) hok' KX' d0 v u q r';exact⟨u,as,rfl,hrd,OldK.of_keep kept,os,bare⟩
theorem sZ{ds:List WData}(h:WData.layableAll ds=true):∀d∈ds,d.weight<=1048576:=fun d hd=>(W.layableW_iff.mp (List.all_eq_true.mp h d hd)).2.2
theorem tI:∀(cs:List Codec)(a:Codec.denoteAll cs),(Codec.encAll cs a).length=cs.length
 |[],_=>rfl
 |c::cs,a=>by show(Codec.encAll cs a.2).length+1=cs.length+1;rw[tI cs a.2]
theorem A6{r:OpenSpec}{k:Nat}{q:Program}{loose:List Str}{XP:(Str->Option Value)->Heap->Prop}{YP:World->Heap->Prop}{d:DefRec}{K:Params->W.Frag}{CX:World->DB}{ps:List Str}{sp:World->Sp} (hwell:r.wellSaid=true) (hdf:d.params.defaults=[]) (hlen:r.args.length=ps.length) (hr:dZ k callerA) (hY:∀(w:World)(h:Heap),YP w h->(K w.params).In h) (F:∀(w:World)(mg:Str->Option Value)(fa:Addr)(h:Heap),YP w h->(K w.params).In h->h.Ns mainGlobals mg->mg d.name=some (.ref fa)->∃fd:FuncData,(∀(s:Shared)(us:List Value),us.length=ps.length->BindsTo s fd ⟨us,[]⟩ (ps.zip us))/\∀base:Heap,(K w.params).In base->base.Ns mainGlobals mg->bj r.prog w (K w.params) mg base (CX w) k fa fd ps (sp w)) (hsp:∀(w:World)(H:Hp)(xs:List V)(a:Codec.denoteAll r.args),zT H->Codec.withinAll r.args a=true->Codec.app r.args r.asked a=true->lM (K w.params) H xs (Codec.encAll r.args a)->sp w xs H (fun v H'=>Dw (K w.params) H' v (r.ret.enc (Codec.app r.args r.f a))) fun _ _ _=>False) (hCX:∀(w:World)(H:Hp)(s:Shared)(e:Value)(s':Shared),CX w [] H s (fun _ _ _=>False) e s'->False) :W.WalkOS q loose XP YP r d [] (fun f vs=>PySem.call f vs):=by intro w s_0 s₁ mg mb G Y fa o pm cd doc dV kV ho hd hcd hD hmg hg args vals as hpre hlay hrd hwl hlo;obtain⟨a,e1,e2⟩:=W.os_pre_some hpre;obtain⟨e3,hwi⟩:=Codec.encAll_of_decAll r.args args a e1;subst e3;have KX:=hY w _ Y;obtain⟨fd,hb,hF⟩:=F w mg fa _ Y KX G.T.g hmg;refine W.enter_call (codeAny_mono (A_ (R:=[]) (cl:=classAt s_0.heap) (d0:=r.ret.enc (Codec.app r.args r.f a)) KX G.T.g G.T.b G.T.builtins G.T.nolimit hg hwl (uh _ _) (sZ hlay) hr hF hb (by rw[tI];exact hlen) (fun H xs hO hS=>hsp w H xs a hO hwi e2 hS) fun H e s'=>hCX w H s₁ e s') fun r' s' hq=>?_);obtain⟨u,as',rfl,h1,h2,h3,h4⟩:=hq;exact⟨.inl ⟨u,_,as',rfl,fun _=>rfl,h1,(OpenSpec.post_iff hwell hwi _ _).mpr rfl,fun z=>Bool.noConfusion (show false=true from z)⟩,h2,h3,h4⟩
end L2
end
namespace L2
open PySem PySem.Spec PyProof.Rows
theorem cF.there{P:Program}{w:World}{H:Hp}{h:Heap}{a:Addr}{o:HO}(x:cF P w H h a o):∃u,h.get? a=some u:=by
 cases o with
 |lst xs=>obtain⟨_,_,_,_,e⟩:=x;exact⟨_,e⟩
 |tup xs=>obtain⟨_,_,_,p⟩:=x;obtain⟨o,e,_⟩:=p;exact⟨_,e⟩
 |dK kvs=>obtain⟨_,_,_,_,o,_,_,e,_⟩:=x;exact⟨_,e⟩
 |dT kvs=>obtain⟨_,_,_,_,o,_,_,e,_⟩:=x;exact⟨_,e⟩
 |set S n=>obtain⟨o,_,_,_,e,_⟩:=x;exact⟨_,e⟩
 |ins C dx fs=>obtain⟨_,_,_,e,_⟩:=x;exact⟨_,e⟩
 |own y=>obtain⟨_,e⟩:=x;exact⟨_,e⟩
 |xd fs=>obtain⟨_,⟨_,_,_,e,_⟩,_⟩:=x;exact⟨_,e⟩
 |rng lo hi=>obtain⟨_,_,_,e⟩:=x;exact⟨_,e⟩
 |frz ob u=>obtain⟨e,_⟩:=x;exact⟨_,e⟩
 |tbl ps=>exact⟨_,(show h.get? a=some _ from x)⟩
 |met f y=>exact⟨_,(show h.get? a=some _ from x)⟩
 |ext φ=>obtain⟨_,⟨_,e⟩,_⟩:=x;exact⟨_,e⟩
theorem jb.absent{P:Program}{w:World}{H:Hp}{h:Heap}(x:jb P w H h){a:Addr}(e:h.get? a=none):H a=none:=by
 cases q:H a with
 |none=>rfl
 |some o=>obtain⟨u,hu⟩:=(x a o q).there;rw[e]at hu;cases hu
def CO(h:Heap)(e T:Addr)(cls:Value):Prop:=∃oe vs a0 oT ts,h.get? e=some oe/\(oe.cls=cls/\vs[0]?=some a0)/\oe.data=.fields vs/\vs[1]?=some (.ref T)/\T≠e/\h.get? T=some oT/\oT.data=.fields ts/\ts[3]?=some .none
def cH(P:Program)(w:World):DB:=fun outer H s E e s'=>∃(a T:Addr)(cls:Value)(H':Hp),e=.ref a/\s'.os=s.os/\AllBare s'.gens/\Un (gW outer) [] H H' s.heap s'.heap/\jb P w H' s'.heap/\H' a=none/\H' T=none/\s.heap.get? a=none/\s.heap.get? T=none/\CO s'.heap a T cls/\E cls none H'
theorem FunFrames.on{h h' base base':Heap}:∀{l:List Env},h.FunFrames base l->(∀b∈gW l,base'.get? b=none)->(∀b∈gW l,∀o,h.get? b=some o->∃sl,h'.get? b=some { o with slots:=sl })->h'.FunFrames base' l
 |[],_,_,_=>trivial
 |env::rest,hl,hn,k=>by
  obtain⟨hk,⟨L,o,hf,_,ho,hd⟩,hr⟩:=hl;have m:L∈gW (env::rest):=by unfold gW;rw[List.filterMap_cons,hf];exact List.mem_cons_self
  have sub:∀b∈gW rest,b∈gW (env::rest):=fun b hb=>by unfold gW at *;rw[List.filterMap_cons,hf];exact List.mem_cons_of_mem _ hb
  obtain⟨sl,hs⟩:=k L m o ho;exact⟨hk,⟨L,_,hf,hn L m,hs,hd⟩,FunFrames.on hr (fun b hb=>hn b (sub b hb)) fun b hb=>k b (sub b hb)⟩
structure Fy(X:Cx):Prop where
 stk:X.stack=X.env::X.outer
 frm:X.env.frame=some X.env.locals
 ex:X.ex=[]
section
variable{X:Cx}{pins:List (Addr×Obj)}{σ:St}{H H':Hp}{s s1:Shared}
theorem Fy.fs(O:Fy X):gW X.stack=X.env.locals::X.fs:=by rw[O.stk];unfold gW;rw[List.filterMap_cons,O.frm];rfl
theorem aH.frames1(I:aH X pins σ H s)(U:Un (gW X.stack) [] H H' s.heap s1.heap){B:Heap}(hB:∀b∈gW X.stack,B.get? b=none):s1.heap.FunFrames B X.stack:=by refine FunFrames.on I.stack hB fun b hb o ho=>?_;exact U.any ho (I.stkFree b hb) (by simp)
theorem xj{h2:Heap}{exs:List Addr}(I:aH X pins σ H s)(U:Un (gW X.stack) [] H H' s.heap s1.heap)(hok:jb X.prog X.w H' s1.heap) (exn:∀b∈exs,H' b=none/\s.heap.get? b=none) (keep:∀b o,s1.heap.get? b=some o->b∉gW X.stack->b∉exs->h2.get? b=some o) (up:s1.heap.UpToSlots h2) :Un (gW X.stack) [] H H' s.heap h2/\jb X.prog X.w H' h2:=by
 have frH:∀b∈gW X.stack,H' b=none:=fun b hb=>by obtain⟨_,o,ho,_⟩:=I.stack.mem hb;exact U.free b o ho (I.stkFree b hb) (by simp)
 have nex:∀b o,s.heap.get? b=some o->b∉exs:=fun b o e hb=>by rw[(exn b hb).2]at e;cases e
 have FF:=I.frames1 U (B:=W.hideAll s1.heap (gW X.stack)) fun b hb=>W.hideAll_none _ hb;have frame:∀b∈gW X.stack,∀o,s1.heap.get? b=some o->∃sl,h2.get? b=some { o with slots:=sl }:=fun b hb o ho=>by obtain⟨_,o',ho',hd⟩:=FF.mem hb;rw[ho]at ho';cases ho';exact up b o ho hd
 constructor
 ·refine⟨?_,?_,U.free,?_,U.tups,U.frzs,U.tbls⟩
  ·intro b o e hn hb hx;exact keep b o (U.keep b o e hn hb hx) hb (nex b o e)
  ·intro b o e hn hb hx;obtain⟨sl,hs⟩:=U.slot b o e hn hb hx;obtain⟨sl',hs'⟩:=frame b hb _ hs;exact⟨sl',hs'⟩
  ·intro b o e hx;obtain⟨o',e'⟩:=U.there b o e hx;by_cases mb:b∈gW X.stack
   ·obtain⟨sl',hs'⟩:=frame b mb _ e';exact⟨_,hs'⟩
   ·exact⟨o',keep b o' e' mb (nex b o e)⟩
 ·intro b o e;refine(hok b o e).stay (fun c u hc q=>?_) (fun _ q=>q) fun _ _ q=>q
  have tr:H' c≠none:=by
   rcases hc with rfl|hc
   ·rw[e];exact Option.some_ne_none _
   ·rw[hc];exact Option.some_ne_none _
  exact keep c u q (fun m=>tr (frH c m)) fun m=>tr (exn c m).1
theorem Al{E:XK}{h2:Heap}{a T:Addr}{cls:Value}{exs:List Addr}(O:Fy X)(I:aH X pins σ H s)(os:s1.os=s.os)(gb:AllBare s1.gens)(U:Un (gW X.stack) [] H H' s.heap s1.heap)(hok:jb X.prog X.w H' s1.heap) (exn:∀b∈exs,H' b=none/\s.heap.get? b=none) (keep:∀b o,s1.heap.get? b=some o->b∉gW X.stack->b∉exs->h2.get? b=some o) (up:s1.heap.UpToSlots h2) (fl:CO h2 a T cls) (ha:a∈exs\/s1.heap.get? a=none) (hT:T∈exs\/s1.heap.get? T=none) (hE:E cls none H') {gg:Array GenState} {dd:Drawn} {tt:Nat} (gb':AllBare gg):cH X.prog X.w X.outer X.H_0 X.s_0 E (.ref a) ⟨h2,gg,dd,tt,s1.os⟩:=by
 obtain⟨U1,hok1⟩:=xj I U hok exn keep up;have U0:=I.base;rw[O.ex]at U0;have sub:∀b∈X.fs,b∈gW X.stack:=fun b hb=>by rw[O.fs];exact List.mem_cons_of_mem _ hb
 have U2:Un (gW X.stack) [] X.H_0 H' X.s_0.heap h2:=(U0.mono (fs':=gW X.stack) (ex':=[]) sub (fun b hb=>hb)).trans U1;have neL:∀b o,X.s_0.heap.get? b=some o->b≠X.env.locals:=fun b o e=>Nat.ne_of_lt (Nat.lt_of_lt_of_le (Heap.lt_size e) I.ok.above)
 have none0:∀b,b∈exs\/s1.heap.get? b=none->X.s_0.heap.get? b=none:=fun b hb=>by
  cases q:X.s_0.heap.get? b with
  |none=>rfl
  |some o=>
   obtain⟨o',e'⟩:=U0.there b o q (by simp);rcases hb with hb|hb
   ·rw[(exn b hb).2]at e';cases e'
   ·obtain⟨o2,e2⟩:=U.there b o' e' (by simp);rw[hb]at e2;cases e2
 have noneH:∀b,b∈exs\/s1.heap.get? b=none->H' b=none:=fun b hb=>hb.elim (fun m=>(exn b m).1) fun m=>hok.absent m;refine⟨a,T,cls,H',rfl,os.trans I.os,gb',⟨?_,?_,U2.free,U2.there,U2.tups,U2.frzs,U2.tbls⟩,hok1,noneH a ha,noneH T hT,none0 a ha,none0 T hT,fl,hE⟩
 ·intro b o e hn hb hx;exact U2.keep b o e hn (by rw[O.fs];intro m;rcases List.mem_cons.mp m with m|m;exact neL b o e m;exact hb m) hx
 ·intro b o e hn hb hx;exact U2.slot b o e hn (sub b hb) hx
theorem F5{E:XK}{a T:Addr}{cls:Value}(O:Fy X)(I:aH X pins σ H s)(os:s1.os=s.os)(gb:AllBare s1.gens)(U:Un (gW X.stack) [] H H' s.heap s1.heap)(hok:jb X.prog X.w H' s1.heap) (h1:H' a=none) (h2:H' T=none) (h3:s.heap.get? a=none) (h4:s.heap.get? T=none) (fl:CO s1.heap a T cls) (hE:E cls none H') {EX:Value->Shared->Prop} :wpAny (model X.prog X.w) X.A (leaving X.env (.ref a)) (fun _ s2=>cH X.prog X.w X.outer X.H_0 X.s_0 E (.ref a) s2) EX s1:=by
 obtain⟨oe,vs,a0,oT,ts,f1,f2,f3,f4,f5,f6,f7,f8⟩:=fl;have FF:=I.frames1 U (B:=W.hideAll s1.heap (gW X.stack++[a,T])) fun b hb=>W.hideAll_none _ (List.mem_append.mpr (.inl hb));have hfl:Heap.FlyingW (W.hideAll s1.heap (gW X.stack++[a,T])) (X.env::X.outer) a cls a0 s1.heap:=by refine⟨fun b o e=>W.of_hideAll _ e,W.hideAll_none _ (by simp),?_,oe,vs,T,oT,ts,f1,f2,f3,f4,W.hideAll_none _ (by simp),f5,f6,f7,f8⟩;rw[<-O.stk];exact FF
 refine wpAny_leaves_onW (by rw[<-O.stk];exact I.ok.frames) O.frm hfl fun hh hfl2 hup=>?_;obtain⟨st,_,_,oe',vs',T',oT',ts',g1,g2,g3,g4,g4',g5,g6,g7,g8⟩:=hfl2;refine Al (exs:=[a,T]) O I os gb U hok ?_ (fun b o e n1 n2=>?_) hup ⟨oe',vs',a0,oT',ts',g1,g2,g3,g4,g5,g6,g7,g8⟩ (.inl (by simp)) ?_ hE gb
 ·intro b hb;rcases List.mem_cons.mp hb with rfl|hb
  ·exact⟨h1,h3⟩
  ·rw[List.mem_singleton]at hb;subst hb;exact⟨h2,h4⟩
 ·exact st b o (W.hideAll_get _ e fun m=>(List.mem_append.mp m).elim n1 n2)
 ·by_cases m:T'∈gW X.stack
  ·obtain⟨_,o',ho',hd⟩:=FF.mem m;obtain⟨sl,hs⟩:=hup _ _ ho' hd;rw[g6]at hs;cases hs;exact absurd g7 (hd _)
  ·by_cases m2:T'∈[a,T]
   ·exact .inl m2
   ·refine .inr ?_;cases q:s1.heap.get? T' with
    |none=>rfl
    |some o=>have:=W.hideAll_get (gW X.stack++[a,T]) q fun z=>(List.mem_append.mp z).elim m m2;rw[g4']at this;cases this
theorem D9{E:XK}{a:Addr}{cls:Value}{vs:List Value}{hx:Heap}(O:Fy X)(I:aH X pins σ H s)(mx:Heap.MadeExcOf s.heap hx a cls vs)(hE:E cls none H){EX:Value->Shared->Prop}:wpAny (model X.prog X.w) X.A (leaving X.env (.ref a)) (fun _ s2=>cH X.prog X.w X.outer X.H_0 X.s_0 E (.ref a) s2) EX { s with heap:=hx }:=by
 have U:Un (gW X.stack) [] H H s.heap s.heap:=Un.refl;have FF:=I.frames1 (s1:=s) U (B:=W.hideAll s.heap (gW X.stack)) fun b hb=>W.hideAll_none _ hb;refine wpAny_leaves_madeW (h:=s.heap) (base:=W.hideAll s.heap (gW X.stack)) (env:=X.env) (outer:=X.outer) (cls:=cls) (args:=vs) (by rw[<-O.stk];exact I.ok.frames) O.frm (fun b o e=>W.of_hideAll _ e) (by rw[<-O.stk];exact FF) mx fun hh t hfl _ _ hup=>?_;obtain⟨st,ne,_,oe',vs',T',oT',ts',g1,g2,g3,g4,g4',g5,g6,g7,g8⟩:=hfl;have hup':s.heap.UpToSlots hh:=(Heap.UpToSlots.of_keeps mx.keeps).trans hup;refine Al (s1:=s) (exs:=[]) O I rfl I.bare U I.hok (fun b hb=>by cases hb) (fun b o e n1 _=>st b o (W.hideAll_get _ e n1)) hup' ⟨oe',vs',.ref t,oT',ts',g1,g2,g3,g4,g5,g6,g7,g8⟩ (.inr mx.new) ?_ hE I.bare;by_cases m:T'∈gW X.stack
 ·obtain⟨_,o',ho',hd⟩:=FF.mem m;obtain⟨sl,hs⟩:=hup' _ _ ho' hd;rw[g6]at hs;cases hs;exact absurd g7 (hd _)
 ·refine .inr ?_;cases q:s.heap.get? T' with
  |none=>rfl
  |some o=>have:=W.hideAll_get (gW X.stack) q m;rw[g4']at this;cases this
end
structure Lv(X:Cx)(E:XK):Prop where
 own:Fy X
 calm:X.calm=true
 xe:∀e s',wpAny (model X.prog X.w) X.A (leaving X.env e) (fun _ s2=>cH X.prog X.w X.outer X.H_0 X.s_0 E e s2) (fun e' s2=>cH X.prog X.w X.outer X.H_0 X.s_0 E e' s2) s'->X.xe e s'
 pass:PassesOwn (model X.prog X.w) X.A X.env X.xe
theorem Lv.passes{X:Cx}{E:XK}(L:Lv X E):e_ (cH X.prog X.w) X E:=by rintro pins σ H s e s' I ⟨a,T,cls,H',rfl,os,gb,U,hok,h1,h2,h3,h4,fl,hE⟩;exact L.xe _ _ (F5 L.own I os gb U hok h1 h2 h3 h4 fl hE)
theorem bq{X:Cx}:e_ (cH X.prog X.w) X E0:=by rintro pins σ H s e s' I ⟨a,T,cls,H',rfl,os,gb,U,hok,h1,h2,h3,h4,fl,hE⟩;exact hE.elim
structure F6(K:W.Frag)(mg:Str->Option Value)(x:Str)(C:Addr):Prop where
 bound:mg x=some (.ref C)
 inK:W.excIn K C [.type "Exception",.type "BaseException",.type "object"] "Exception.__new__"=true
theorem Ei{K:W.Frag}{h:Heap}{C:Addr}{bmB:List Value}{newId:String}(X:K.In h)(q:W.excIn K C bmB newId=true):∃bm N nm q bs hdct sn sub ab col dd k0 k1 k2 k3 k5 mN,h.get? C=some (excClassObj nm q C N bs bm hdct sn sub ab col dd k0 k1 k2 k3 k5 newId)/\h.Ns N mN/\mN "__init__"=none/\OwnTail h bmB bm:=by
 unfold W.excIn at q;split at q
 ·rename_i dd cd sl ho;split at q
  ·rename_i C' bm k0 k1 k2 k3 n k5 hm hs;simp only[Bool.and_eq_true,beq_iff_eq,Bool.not_eq_true']at q;obtain⟨⟨⟨⟨⟨rfl,rfl⟩,hdel⟩,ht⟩,hok⟩,hni⟩:=q;obtain⟨nm,bs,mro,ns,qn,hd,sn,sub,ab,col,del⟩:=cd;dsimp only at hm hdel hok hni;subst hm hdel;have hsl:sl=#[k0,k1,k2,k3,some (.builtin n),k5]:=by obtain⟨l⟩:=sl;simp only at hs;rw[hs]
   subst hsl;exact⟨bm,ns,nm,qn,bs,hd,sn,sub,ab,col,dd,k0,k1,k2,k3,k5,_,X _ _ ho,.of_isNs (W.isNs_of_in X hok),W.nsMap_none_of_in X hok hni,W.tail_of_in X ht⟩
  ·cases q
 ·cases q
def E9(E:XK)(C:Addr):TS:=fun _ _ H=>E (.ref C) none H
theorem cN {X:Cx} {E:XK} {x:Str} {C:Addr} {np cpos pos:Pos} (L:Lv X E) (hg:Gl X x) (ex:F6 X.K X.mg x C) (hdb:(x==("__debug__":Str))=false:=by decide) :PS X (.Raise (some (.Call (.Name x np) [] [] cpos)) none pos) (E9 E C):=by intro pins s σ H D I h;obtain⟨tl,N,nm,q,bs,hdct,sn,sub,ab,col,dd,k0,k1,k2,k3,k5,mN,hC,hN,hni,T⟩:=Ei I.kIn ex.inK;refine wpAny_Raise_call_subT (C:=C) (nm:=nm) (q:=q) (N:=N) (bs:=bs) (bm:=tl) (hdct:=hdct) (sn:=sn) (sub:=sub) (ab:=ab) (col:=col) (dd:=dd) (k0:=k0) (k1:=k1) (k2:=k2) (k3:=k3) (k5:=k5) PySem.F.excBase_Exception (mN:=mN) (T.hasType PySem.F.excBase_Exception.hasBase) (I.ok.hd L.calm) rfl hni (jB I hg ex.bound ⟨rfl,?_⟩ hdb);refine evalArgs_empty ⟨rfl,Nat.zero_le _,hC,hN,T,fun h' e mx=>?_⟩;exact L.xe _ _ (D9 L.own I mx h)
section
variable{P:Program}{w:World}{K:W.Frag}{mg:Str->Option Value}{base:Heap}
theorem dB.okX{x qual:Str}{st:Stmt}{f:Addr}{fd:FuncData}{N ps:List Str}{k:Nat}{sp:Sp}(F:dB K x qual st f fd)(S:aE N ps (aw st))(len:∀vs H Q E,sp vs H Q E->vs.length=ps.length) (hbody:∀(cdv:Value)(A:Around)(outer:List Env)(s:Shared)(H:Hp)(vs:List V)(Q:VK)(E:XK),dZ k (A.deeper (envOfC qual (aw st) s.heap.objs.size f cdv))->Lv (wV (cH P w) P w K mg base N qual (aw st) f cdv A outer s H E) E->sp vs H Q E->∃t,zg (wV (cH P w) P w K mg base N qual (aw st) f cdv A outer s H E) (d_ st) t/\t { nx:=fun _ H'=>Q .non H',rt:=Q } (start N vs) H):bj P w K mg base (cH P w) (k+1) f fd ps sp:=by obtain⟨oc,od,kV,doc,pm,an,cdv,ct,osl,rfl,lk,hcd⟩:=F.ex;refine EG lk hcd S len fun A outer s H vs Q E hr hsp=>?_;exact hbody cdv A outer s H vs Q E hr ⟨⟨rfl,rfl,rfl⟩,rfl,fun _ _ h=>h,PassesOwn.leaving⟩ hsp
theorem dB.ok0{x qual:Str}{st:Stmt}{f:Addr}{fd:FuncData}{N ps:List Str}{k:Nat}{sp:Sp}(F:dB K x qual st f fd)(S:aE N ps (aw st))(len:∀vs H Q E,sp vs H Q E->vs.length=ps.length) (hbody:∀(cdv:Value)(A:Around)(outer:List Env)(s:Shared)(H:Hp)(vs:List V)(Q:VK)(E:XK),dZ k (A.deeper (envOfC qual (aw st) s.heap.objs.size f cdv))->sp vs H Q E->∃t,zg (wV (cH P w) P w K mg base N qual (aw st) f cdv A outer s H E).nox (d_ st) t/\t { nx:=fun _ H'=>Q .non H',rt:=Q } (start N vs) H):bj P w K mg base (cH P w) (k+1) f fd ps sp:=by obtain⟨oc,od,kV,doc,pm,an,cdv,ct,osl,rfl,lk,hcd⟩:=F.ex;refine EG lk hcd S len fun A outer s H vs Q E hr hsp=>?_;obtain⟨t,h,q⟩:=hbody cdv A outer s H vs Q E hr hsp;exact⟨t,h.nox,q⟩
def gX(P:Program)(w:World)(K:W.Frag)(mg:Str->Option Value)(base:Heap)(k:Nat)(x:Str)(ps:List Str)(sp:Sp):Prop:=∃f fd,mg x=some (.ref f)/\W.keepIn K (.ref f)=true/\jr K fd ps []/\bj P w K mg base (cH P w) k f fd ps sp
def iV(P:Program)(w:World)(K:W.Frag)(mg:Str->Option Value)(base:Heap)(k:Nat)(C:Addr)(m:Str)(ps:List Str)(sp:Sp):Prop:=∃f fd,Dr K C m f/\jr K fd ps []/\bj P w K mg base (cH P w) k f fd ps sp
def EF(P:Program)(w:World)(K:W.Frag)(mg:Str->Option Value)(base:Heap)(k:Nat)(C:Addr)(x:Str)(ps:List Str)(sp:Sp):Prop:=∃f fd,mg x=some (.ref C)/\Mk K C f/\jr K fd ps []/\bj P w K mg base (cH P w) k f fd ps sp
end
section
variable{X:Cx}{k:Nat}{C:Addr}{ps:List Str}{sp:Sp}{E:XK}{x m:Str}{p pos apos:Pos}{e o:Expr}{es:List Expr}{ta:TE}{t:TA}
theorem bS(G:gX X.prog X.w X.K X.mg X.base k x ps sp)(hr:dZ k X.A)(hx:e_ (cH X.prog X.w) X E)(ha:PA X (e::es) t)(hg:Gl X x:=by rfl) (hdb:(x==("__debug__":Str))=false:=by decide) (he:starEach (e::es) X.env=(false,eval e X.env)::starEach es X.env:=by rfl) (hpl:(backTo pos (starEach es X.env)).any (·.1)=false:=by rfl) :PE X (.Call (.Name x p) (e::es) [] pos) (fY sp [] E t):=by obtain⟨f,fd,h1,h2,h3,h4⟩:=G;exact DJ h4 hr hg h1 h2 h3 .nil hx ha hdb he hpl
theorem cf{pl:Sem Bool}(M:iV X.prog X.w X.K X.mg X.base k C m ps sp)(c:qH X.K C)(hr:dZ k X.A)(hx:e_ (cH X.prog X.w) X E)(he:PE X o ta)(ha:PA X (e::es) t) (hst:starEach (e::es) X.env=(false,eval e X.env)::starEach es X.env:=by rfl) (hpl:(backTo pos (starEach es X.env)).any (·.1)=false:=by rfl) (ht:eval (.Call (.Attribute o m apos) (e::es) [] pos) X.env=(do
   let ov <-eval o X.env;standAt apos.atName;let(f,first) <-holding [ov] (getMethod ov m pl);callWith pos f first (backTo pos (starEach (e::es) X.env)) (backToKw pos (keywordEach [] X.env))):=by rfl) :
  PE X (.Call (.Attribute o m apos) (e::es) [] pos) (fx C m sp [] E ta t):=by
 obtain⟨f,fd,h1,h2,h3⟩:=M;exact DV he c h1 h3 hr h2 .nil hx ha hst hpl ht
theorem i4{pl:Sem Bool}(M:iV X.prog X.w X.K X.mg X.base k C m ps sp)(c:qH X.K C)(hr:dZ k X.A)(hx:e_ (cH X.prog X.w) X E)(he:PE X o ta) (ht:eval (.Call (.Attribute o m apos) [] [] pos) X.env=(do
   let ov <-eval o X.env;standAt apos.atName;let(f,first) <-holding [ov] (getMethod ov m pl);callWith pos f first (backTo pos (starEach [] X.env)) (backToKw pos (keywordEach [] X.env))):=by rfl) :
  PE X (.Call (.Attribute o m apos) [] [] pos) (fx C m sp [] E ta ck):=by
 obtain⟨f,fd,h1,h2,h3⟩:=M;exact B9 he c h1 h3 hr h2 .nil hx ht
theorem El(M:EF X.prog X.w X.K X.mg X.base k C x ps sp)(hr:dZ (k+1) X.A)(hx:e_ (cH X.prog X.w) X E)(ha:PA X (e::es) t)(hg:Gl X x:=by rfl) (hdb:(x==("__debug__":Str))=false:=by decide) (he:starEach (e::es) X.env=(false,eval e X.env)::starEach es X.env:=by rfl) (hpl:(backTo pos (starEach es X.env)).any (·.1)=false:=by rfl) :PE X (.Call (.Name x p) (e::es) [] pos) (tw C sp [] E t):=by obtain⟨f,fd,h1,h2,h3,h4⟩:=M;exact D4 h2 h4 hr hg h1 h3 .nil hx ha hdb he hpl
theorem GH(M:EF X.prog X.w X.K X.mg X.base k C x ps sp)(hr:dZ (k+1) X.A)(hx:e_ (cH X.prog X.w) X E)(hg:Gl X x:=by rfl) (hdb:(x==("__debug__":Str))=false:=by decide):PE X (.Call (.Name x p) [] [] pos) (tw C sp [] E ck):=by obtain⟨f,fd,h1,h2,h3,h4⟩:=M;exact B_ h2 h4 hr hg h1 h3 .nil hx hdb
end
abbrev Cx.mk1(X:Cx)(v:Value)(E:Value->Shared->Prop):Cx:={ X with A:=X.A.mark (some v),calm:=false,xe:=E }
section
variable{X:Cx}{pins:List (Addr×Obj)}{σ:St}{H H':Hp}{s s1:Shared}
theorem aH.mark(I:aH X pins σ H s)(v:Value)(E:Value->Shared->Prop):aH (X.mk1 v E) pins σ H s:=⟨⟨I.ok.mod,I.ok.kind,I.ok.glob,I.ok.blt,I.ok.above,I.ok.inj,I.ok.has,I.ok.cab,(fun h=>nomatch h),I.ok.frames,I.ok.stk,I.ok.exf,I.ok.bs,I.ok.bsz,I.ok.noex,I.ok.exfs,I.ok.funs,I.ok.frf⟩,I.os,I.bare,I.base,I.loc,I.cell,I.free,I.freeC,I.pin,I.hok,I.len⟩
theorem aH.unmark{v:Value}{E:Value->Shared->Prop}(ok:X.Ok)(I:aH (X.mk1 v E) pins σ H s):aH X pins σ H s:=⟨ok,I.os,I.bare,I.base,I.loc,I.cell,I.free,I.freeC,I.pin,I.hok,I.len⟩
theorem SP.unmark{v:Value}{E:Value->Shared->Prop}{D:bN}{f:Flow}{s':Shared}(ok:X.Ok)(h:SP (X.mk1 v E) pins D f s'):SP X pins D f s':=by
 cases f with
 |next=>obtain⟨σ',H',I,q⟩:=h;exact⟨σ',H',I.unmark ok,q⟩
 |brk=>obtain⟨σ',H',I,q⟩:=h;exact⟨σ',H',I.unmark ok,q⟩
 |cont=>obtain⟨σ',H',I,q⟩:=h;exact⟨σ',H',I.unmark ok,q⟩
 |ret u=>obtain⟨v,σ',H',I,q⟩:=h;exact⟨v,σ',H',I.unmark ok,q⟩
inductive wX(X:Cx)(i:Nat):List ExceptHandler->List (Addr×Int)->Prop
 |nil:wX X i [] []
 |cons {cn:Str} {np hpos:Pos} {b:Stmt} {body:List Stmt} {rest:List ExceptHandler} {C:Addr} {k:Int} {L:List (Addr×Int)}:Gl X cn->X.mg cn=some (.ref C)->(cn==("__debug__":Str))=false->
   (∀v E,zg (X.mk1 v E) (b::body) (fV (nP (a_ (tC (.int k)) ck)) (bw i)))->wX X i rest L->wX X i (.ExceptHandler (some (.Name cn np)) none (b::body) hpos::rest) ((C,k)::L)
theorem A1{i:Nat}{D:bN}{EX:Value->Shared->Prop}{base:Heap}{a C:Addr}{a0:Value}(ok:X.Ok):∀{hs:List ExceptHandler}{L:List (Addr×Int)},wX X i hs L->(L.map (·.1)).Nodup->(∀q∈L,W.exmOne X.K (.ref C) (.ref q.1)=some (decide (C=q.1)))->∀{k:Int},(C,k)∈L->(∀p,H' p=none->D.nx (σ.set i (some (.ref p))) (aI H' p (.lst [.int k])))->∀{s2:Shared},Heap.FlyingW base (X.env::X.outer) a (.ref C) a0 s2.heap->(∀h2,base.StaysIn h2->s2.heap.UpToSlots h2->aH X pins σ H' { s2 with heap:=h2 })->wpAny (model X.prog X.w) X.A (handleBy (.ref a) X.env hs) (SP X pins D) EX s2:=by
 intro hs L hh;induction hh with
 |nil=>intro _ _ k h;cases h
 |@cons cn np hpos b body rest C' k' L' hg hm hdb hb _ ih=>
  intro nd hx k hk hD s2 fl hI;have I0:aH X pins σ H' s2:=hI s2.heap fl.1 (Heap.UpToSlots.of_keeps fun _ _ e=>e);obtain⟨oe,hoe,hcls⟩:=fl.there;have LT:W.Looks (model X.prog X.w) s2.heap (typeOf (.ref a)) (.ref C):=by rw[<-hcls];exact(W.Looks.ld hoe).andThen .now
  refine wpAny_handleBy_cons (codeAny_handlers_test (jB (X:=X.mk1 (.ref a) fun _ _=>False) (I0.mark _ _) hg hm ?_ hdb)) (by intro q;cases q);refine W.exm_one (M:=model X.prog X.w) I0.kIn LT (hx (C',k') List.mem_cons_self) _ _ _ s2 (fun _ _ e=>e) ?_;by_cases c:C=C'
  ·subst c;rw[decide_eq_true rfl]
   have ek:k=k':=by
    rcases List.mem_cons.mp hk with e|e
    ·cases e;rfl
    ·rw[List.map_cons,List.nodup_cons]at nd;exact absurd (List.mem_map.mpr ⟨_,e,rfl⟩) nd.1
   subst ek;refine codeAny_handlers_suite ?_;obtain⟨f1,f2,f3,f4⟩:=fl;refine wpAny_setFlight_noneW f1 f3 f4 fun h' k1 k2 k3 k4=>?_;have I2:=hI h' k1 fun b o hb' hn=>⟨o.slots,k4 b o hb' hn⟩
   refine wpAny_mono (hb (.ref a) (fun _ _=>False) pins _ σ H' D (I2.mark _ _) ?_) (fun f s3 h3=>h3.unmark ok) fun _ _ h=>h.elim;show[V.int k].length<=sizeLine/\∀p,H' p=none->D.nx (σ.set i (some (.ref p))) (aI H' p (.lst [.int k]));exact⟨by show 1<=sizeLine;decide,hD⟩
  ·rw[decide_eq_false c]
   have hk':(C,k)∈L':=by
    rcases List.mem_cons.mp hk with e|e
    ·cases e;exact absurd rfl c
    ·exact e
   rw[List.map_cons,List.nodup_cons]at nd;exact ih nd.2 (fun q hq=>hx q (List.mem_cons_of_mem _ hq)) hk' hD fl hI
def Hm(hs:List (Addr×Int))(i:Nat)(sp:Sp)(t:TA):TS:=fun D σ H=>t σ H fun vs H1=>sp (vs++[]) H1 (fun v H2=>D.nx (σ.set i (some v)) H2) (fun cls _ H'=>∃C k,(C,k)∈hs/\cls=.ref C/\∀p,H' p=none->D.nx (σ.set i (some (.ref p))) (aI H' p (.lst [.int k])))
theorem yV{k i:Nat}{x fn:Str}{ps:List Str}{sp:Sp}{e:Expr}{es:List Expr}{t:TA}{h0:ExceptHandler}{hs:List ExceptHandler}{L:List (Addr×Int)}{np p cpos apos pos:Pos}(G:gX X.prog X.w X.K X.mg X.base k fn ps sp)(hr:dZ k X.A)(O:Fy X) (hN:X.N.Nodup) (hi:X.N[i]?=some x) (hx:Ed X.env.scope x) (hf:X.fn x=true\/X.env.scope.names.lookup x=some .local) (ha:∀E,PA (X.wish E) (e::es) t) (hh:wX X i (h0::hs) L) (hnd:(L.map (·.1)).Nodup) (hex:∀q∈L,∀q'∈L,W.exmOne X.K (.ref q.1) (.ref q'.1)=some (decide (q.1=q'.1))) (hg:Gl X fn:=by rfl) (hdb:(fn==("__debug__":Str))=false:=by decide) (he:starEach (e::es) X.env=(false,eval e X.env)::starEach es X.env:=by rfl) (hpl:(backTo cpos (starEach es X.env)).any (·.1)=false:=by rfl) (hsw:swapsWith (.Call (.Name fn p) (e::es) [] cpos) (some (.Name x np)) apos.line X.env=pure false:=by rfl) :PS X (.Try [.Assign [.Name x np] (.Call (.Name fn p) (e::es) [] cpos) apos] (h0::hs) [] [] pos) (Hm L i sp t):=by
 intro pins s σ H D I h;obtain⟨f,fd,hm,hk,hb,F⟩:=G;refine wpAny_Try_except ?_;refine wpAny_execs_cons (wpAny_mono (Q:=fun fl s1=>match fl with|.next=>SP X pins D .next s1|_=>False) (E:=fun ev s1=>wpAny (model X.prog X.w) X.A (noteFrame ev X.env) (fun _ s₂=>wpAny (model X.prog X.w) X.A (setFlight ev none) (fun _ s₃=>wpAny (model X.prog X.w) X.A (handleBy ev X.env (h0::hs)) (SP X pins D) X.xe s₃) X.xe s₂) X.xe s1) ?_ (fun fl s1 q=>?_) fun _ _ h=>h)
 ·refine wpAny_Assign_Name (wpAny_mono (Q:=EP X pins σ fun v H2=>D.nx (σ.set i (some v)) H2) ?_ (fun v s1⟨y,H1,I1,r1,q1⟩=>?_) fun _ _ h=>h) hsw
  ·let XE:Value->Shared->Prop:=fun ev s1=>wpAny (model X.prog X.w) X.A (noteFrame ev X.env) (fun _ s₂=>wpAny (model X.prog X.w) X.A (setFlight ev none) (fun _ s₃=>wpAny (model X.prog X.w) X.A (handleBy ev X.env (h0::hs)) (SP X pins D) X.xe s₃) X.xe s₂) X.xe s1;refine wpAny_Call_Name_kw (jB I hg hm ?_ hdb);refine W.callWith_K (h₀:=X.base) I.ok.mod.kin hk (cA (ha XE cpos pins s σ H _ (I.wish XE) h) fun us s1⟨vs,H1,I1,r,q⟩=>⟨I1.kIn,?_⟩) he hpl;have I1:aH X pins σ H1 s1:=I1.unwish;have r2:aQ (vs++[]) (us++[]):=r.append .nil;have hl:(us++[]).length=ps.length:=by rw[<-r2.length];exact F.len _ _ _ _ q
   refine wpAny_call (codeAny_mono (F.run X.A X.stack s1 H1 ⟨us,[]⟩ (us++[]) (vs++[]) _ _ hr I1.env0 (hb s1 us I1.kIn hl) r2 q) fun r s' hq=>?_);cases r with
   |ok fl=>
    cases fl with
    |ret u=>exact I1.after hq
    |next=>exact False.elim hq
    |brk=>exact False.elim hq
    |cont=>exact False.elim hq
   |error ev=>
    obtain⟨a,T,cls,H',rfl,os,gb,U,hok,h1,h2,h3,h4,fl,C,kk,hin,rfl,hD⟩:=hq;obtain⟨oe,ws,a0,oT,tt,f1,f2,f3,f4,f5,f6,f7,f8⟩:=fl;have FF:=I1.frames1 U (B:=W.hideAll s'.heap (gW X.stack++[a,T])) fun b hb=>W.hideAll_none _ (List.mem_append.mpr (.inl hb));have hfl:Heap.FlyingW (W.hideAll s'.heap (gW X.stack++[a,T])) (X.env::X.outer) a (.ref C) a0 s'.heap:=by refine⟨fun b o e=>W.of_hideAll _ e,W.hideAll_none _ (by simp),?_,oe,ws,T,oT,tt,f1,f2,f3,f4,W.hideAll_none _ (by simp),f5,f6,f7,f8⟩;rw[<-O.stk];exact FF
    have toI:∀h2,(W.hideAll s'.heap (gW X.stack++[a,T])).StaysIn h2->s'.heap.UpToSlots h2->aH X pins σ H' { s' with heap:=h2 }:=by
     intro h2 st up
     obtain⟨U1,hok1⟩:=xj (exs:=[a,T]) I1 U hok (fun b hb=>by
      rcases List.mem_cons.mp hb with rfl|hb
      ·exact⟨h1,h3⟩
      ·rw[List.mem_singleton]at hb;subst hb;exact⟨by assumption,h4⟩) (fun b o e n1 n2=>st b o (W.hideAll_get _ e fun m=>(List.mem_append.mp m).elim n1 n2)) up
     obtain⟨v,H2,I2,_,rfl⟩:=I1.after (u:=.none) (s':={ s' with heap:=h2 }) (Q:=fun _ H2=>H2=H') ⟨.non,H',os,gb,U1,hok1,rfl,rfl⟩;exact I2
    show wpAny _ _ (noteFrame (.ref a) X.env) _ _ s';refine wpAny_looks_onW (by rw[<-O.stk];exact I1.ok.frames) O.frm hfl fun hh' held up=>?_;refine wpAny_landsW (s:={ s' with heap:=hh' }) held fun hh2 fly up2=>?_;exact A1 (s2:={ s' with heap:=hh2 }) I.ok hh hnd (fun q hq=>hex (C,kk) hin q hq) hin hD fly fun h3 st3 up3=>toI h3 st3 ((up.trans up2).trans up3)
  ·exact ox I1 hN hi hx r1 (fun s2 I2=>⟨_,H1,I2,q1⟩) hf
 ·cases fl with
  |next=>exact wpAny_execs_nil (wpAny_execs_nil q)
  |brk=>exact q.elim
  |cont=>exact q.elim
  |ret v=>exact q.elim
end
section
variable{X:Cx}
def zV:V->List V->Hp->VK->Prop:=fun x vs H Q=>∃l xs k y,x=.ref l/\vs=[.int ((k:Nat):Int),y]/\H l=some (.lst xs)/\k<=xs.length/\xs.length<sizeLine/\Q .non (aI H l (.lst (xs.take k++y::xs.drop k)))
theorem Bn:GZ X "list.insert" zV:=by
 intro pins s σ H x vs v us Q I rx rv h;obtain⟨l,xs,k,y,rfl,rfl,hH,hk,hz,q⟩:=h;cases rx;obtain⟨u1,u,rfl,ru1,ru⟩:=rv.two;obtain⟨t,rfl⟩:=ru1;obtain⟨z,its,n,r,hl,e⟩:=I.lstM hH
 have fits:¬(!Builtin.List.listFitsIndex ((k:Nat):Int))=true:=by
  have h63:=nM;have:(k:Int)<2^63:=by omega
  intro q;have e:Builtin.List.listFitsIndex ((k:Nat):Int)=true:=by unfold Builtin.List.listFitsIndex;rw[decide_eq_true (show -(2^63:Int)<=((k:Nat):Int) by omega),decide_eq_true this];rfl
  rw[e]at q;cases q
 have hsz:its.toArray.size<=sizeLine:=by rw[List.size_toArray];omega
 generalize hx:((k:Nat):Int)=x at fits;have ek:(if x<0 then(x+((its.toArray.size:Nat):Int)).toNat else min x.toNat its.toArray.size)=k:=by rw[if_neg (by omega),List.size_toArray];omega
 refine call_meets F.slot_list_insert ⟨_,e,rfl⟩ F.entry_list_insert (F.args_list_insert_3 (.ref l) (.int x t) u) (AutoSeq1.list_insert_list_int_val_1 l its.toArray n x t u fits hsz) ⟨e,?_⟩;refine⟨.non,_,I.lset (its':=its.take k++u::its.drop k) hH e ?_ ((r.take k).append (.cons ru (r.drop k))) ?_,rfl,q⟩
 ·show(its.toArray.extract 0 (if x<0 then(x+((its.toArray.size:Nat):Int)).toNat else min x.toNat its.toArray.size)).push u++its.toArray.extract (if x<0 then(x+((its.toArray.size:Nat):Int)).toNat else min x.toNat its.toArray.size)=_;rw[ek];apply Array.toList_inj.mp;simp only[Array.toList_append,Array.toList_push,Array.toList_extract,List.extract_eq_drop_take,List.drop_zero,Nat.sub_zero,List.size_toArray,List.append_assoc,List.singleton_append];rw[List.take_of_length_le (l:=List.drop k its) (by rw[List.length_drop];omega)]
 ·rw[List.length_append,List.length_cons,List.length_take,List.length_drop];omega
theorem oH:GS X (kh X.K):=by
 intro pins s σ H o i ov iv Q I ro ri h;obtain⟨p,xs,k,z,rfl,rfl,hq,he,q⟩:=h;cases ro;obtain⟨t,rfl⟩:=ri;obtain⟨its,r,pl,hz⟩:=I.list hq;obtain⟨j,h1,h2,h3,h4,h5⟩:=wD he;obtain⟨w,ew,rw'⟩:=r.get h2;have hl:=r.length;have hn:=nM;by_cases h0:0<=k
 ·have hj:k.toNat=j:=by rw[seqIndex_of h0 h5]at h1;exact Option.some.inj h1
  exact wpAny_getItem_list pl.isList h0 (by omega) (by rw[hj];simpa using ew) ⟨z,H,I,rw',q⟩
 ·have hj:(k+(its.toArray.size:Int)).toNat=j:=by rw[seqIndex_neg (by omega) h4]at h1;rw[List.size_toArray,<-hl];exact Option.some.inj h1
  exact wpAny_getItem_list_neg pl.isList (by omega) (by rw[List.size_toArray]<;>omega) (by omega) (by rw[hj];simpa using ew) ⟨z,H,I,rw',q⟩
end
section
variable{X:Cx}
theorem rD (hc:X.calm=true):m7 X (.type "list") (fun xs H Q=>∃a kvs,xs=[.ref a]/\H a=some (.dK kvs)/\∀p,H p=none->Q (.ref p) (aI H p (.lst (kvs.map fun kv=>kV kv.1)))):=by
 intro pins s σ H xs us Q I rv h;obtain⟨a,kvs,rfl,hH,q⟩:=h;obtain⟨u,rfl,ru⟩:=zM rv;cases ru;obtain⟨hz,hd,vs,r,D⟩:=ES I.hok hH;obtain⟨ep,hat⟩:=D.dictAt;have hlen:vs.length=kvs.length:=r.length.symm;refine W.kdl_call (W.kdl_dict (knd:=cb X.prog X.w) (kvs:=vs) (ep:=ep) hd) (I.ok.hd hc) hat (by rw[hlen];exact hz) fun h' tk acc' c' hk hD hacc=>?_;refine⟨.ref s.heap.objs.size,_,I.laid (a:=s.heap.objs.size) (o:=.lst (kvs.map fun kv=>kV kv.1)) hk (Nat.le_refl _) ⟨by rw[List.length_map];exact hz,acc'.toList,c',?_,by rw[hD]⟩,rfl,q _ I.fresh⟩
 have key:∀(l:List (dU×V))(m:List (dU×Value))(ac:List Value),KV l m->ac.length=m.length->(∀(j:Nat)(v:Value),ac[j]?=some v->∃k x,m[j]?=some (k,x)/\(cb X.prog X.w).is k v=true)->aQ (l.map fun kv=>kV kv.1) ac:=by
  intro l m ac hr;induction hr generalizing ac with
  |nil=>
   intro hl _;cases ac with
   |nil=>exact .nil
   |cons _ _=>simp at hl
  |cons h1 _ ih=>
   intro hl hv;cases ac with
   |nil=>simp at hl
   |cons v ac=>obtain⟨k,x,e1,e2⟩:=hv 0 v rfl;have e1:=Option.some.inj e1;refine .cons ?_ (ih ac (by simpa using hl) fun j w hj=>hv (j+1) w hj);have e3:=h1.1;rw[e1]at e3;show br (kV _) v;rw[e3];exact xJ (by rw[<-zr X.prog X.w];exact e2)
 refine key kvs vs acc'.toList r (by rw[Array.length_toList];exact hacc.1) fun j v e=>hacc.2 j v (by rw[<-Array.getElem?_toList];exact e)
end
section
variable{prog:Program}{w:World}{A:Around}{E:Value->Shared->Prop}{s:Shared}
theorem BK:typeLookup (.type "list_reverseiterator") "__len__"=pure none:=by rw[typeLookup_type,builtinLookup_eq_fast];kernel_rfl
theorem C1:typeLookup (.type "list_reverseiterator") "__length_hint__"=pure (some (.builtin "list_reverseiterator.__length_hint__")):=by rw[typeLookup_type,builtinLookup_eq_fast];kernel_rfl
theorem Do {it:Addr} {Q:Bool->Shared->Prop} (hT:s.TypeIs (.ref it) "list_reverseiterator") (h:Q false s):wpAny (model prog w) A (Builtin.List.listLengthHint (.ref it)) Q E s:=by unfold Builtin.List.listLengthHint;refine wpAny_bind (wpAny_specialOf hT BK ?_);refine wpAny_ite_split (fun hab=>absurd hab (by decide)) (fun _=>?_);refine wpAny_ite_split (fun hab=>absurd hab (by decide)) (fun _=>?_);refine wpAny_bind (wpAny_specialOf hT C1 ?_);generalize hid:("list_reverseiterator.__length_hint__":String)=id0;wp_delta;rw[show splitId id0=some ("list_reverseiterator","__length_hint__")from by subst hid;decide +kernel];subst hid;refine wpAny_bind (wpAny_isInstance (T:="list_reverseiterator") (b:=true) hT (by rw[isSubtype_type];kernel_rfl) ?_);refine wpAny_ite_split (fun hab=>absurd hab (by decide)) (fun _=>?_);refine wpAny_ite_split (fun _=>?_) (fun hab=>absurd (by decide +kernel) hab);refine wpAny_ite_split (fun hab=>absurd hab (by decide +kernel)) (fun _=>?_);exact wpAny_pure h
open PySem.W in
theorem Ek{R:Result->Shared->Prop}{it l S:Addr}{items:Array Value}(hh:A.handled=none)(hit:s.heap.IsRevIter it l ((items.size:Int)-1))(hl:s.heap.IsList l items)(hne:l≠it)(hSi:S≠it)(hSl:S≠l)(res:Value)(c₀:Nat)
  (hS:s.heap.get? S=some { cls:=.type "list",data:=.seq #[] c₀ })
  (hR:∀h' tk acc' c',(∀b o,b≠S->b≠it->s.heap.get? b=some o->h'.get? b=some o)->h'.get? S=some { cls:=.type "list",dict:=none,data:=.seq acc' c',slots:=#[] }->ItemsOf (fun i v=>items[items.size-1-i]?=some v) acc' items.size->R (.ok (.ret res)) { s with heap:=h',toks:=tk }) (hn:items.size<=sizeLine) :
  wpAny (model prog w) A.in1 (Builtin.List.listExtendWith (.ref S) (.ref it) res)
   (fun fin s'=>match fin with|.done f=>R (.ok f) s'|.again c'=>c'.quiet=true/\codeAny (model prog w) A c' R s') (fun e s'=>R (.error e) s') s:=by
 have hSf:S∉[it,l]:=by simp only[List.mem_cons,List.not_mem_nil,or_false,not_or];exact⟨hSi,hSl⟩
 have W:=Walks.listRev (prog:=prog) (w:=w) (A:=A.in1) hh it l hne items
 have key:codeAny (model prog w) A (.builtin "list.extend.loop" ⟨[.ref S,.ref it,res],[]⟩) R s:=by
  refine codeAny_extend_loopS W.toS hn S hSf res items.size 0 _ #[] c₀ rfl (Nat.zero_le _) ⟨Nat.zero_le _,by simpa using hit,hl⟩ hS (ItemsOf.nil _) fun s' acc' c' hm hS' hacc=>?_
  rw[Moved.eq_with hm]
  refine hR s'.heap s'.toks acc' c' (fun b o hb hb2 e=>hm.heap b o (fun hmem=>?_) e) hS' hacc
  rcases List.mem_cons.mp hmem with e'|hmem
  ·exact hb e'
  ·exact hb2 (List.mem_singleton.mp hmem)
 unfold Builtin.List.listExtendWith
 refine wpAny_bind (wpAny_typeOf (T:="list_reverseiterator") hit.typeIs ?_)
 have h1:Builtin.List.listSameRef (.ref S) (.ref it)=false:=by simp[Builtin.List.listSameRef,hSi]
 have h2:(Value.type "list_reverseiterator"==Value.type "list")=false:=by decide
 have h3:(Value.type "list_reverseiterator"==Value.type "tuple")=false:=by decide
 simp only[h1,h2,h3,Bool.or_false,Bool.false_eq_true,if_false]
 refine wpAny_bind (wpAny_pyIter_revIter hit ?_)
 refine wpAny_bind (wpAny_holding (Do hit.typeIs ?_))
 refine wpAny_ite_split (fun hab=>absurd hab (by decide)) (fun _=>wpAny_pure ⟨plainId_quiet PySem.F.plain_extend_loop _,key⟩)
open PySem.W in
theorem tP{Q:Value->Shared->Prop}{it l:Addr}{items:Array Value}(hh:A.handled=none)(hit:s.heap.IsRevIter it l ((items.size:Int)-1))(hl:s.heap.IsList l items)(hne:l≠it)(hn:items.size<=sizeLine)
  (hQ:∀h' tk acc' c',(∀b o,b≠it->s.heap.get? b=some o->h'.get? b=some o)->h'.get? s.heap.objs.size=some { cls:=.type "list",dict:=none,data:=.seq acc' c',slots:=#[] }->ItemsOf (fun i v=>items[items.size-1-i]?=some v) acc' items.size->Q (.ref s.heap.objs.size) { s with heap:=h',toks:=tk }) :
  wpAny (model prog w) A (call (.type "list") [.ref it]) Q E s:=by
 refine callType_codes (Q₁:=fun obj s₁=>obj=.ref s.heap.objs.size/\s₁={ s with heap:=s.heap.push { cls:=.type "list",data:=.seq #[] } }) PySem.F.called_list (PySem.F.typeCall_list_1 _) PySem.F.entry_list_init
  (code_list_new _ ⟨rfl,rfl⟩) fun obj s₁ h₁=>?_
 obtain⟨rfl,rfl⟩:=h₁
 have hS:(s.heap.push { cls:=.type "list",data:=.seq #[] }).get? s.heap.objs.size=some { cls:=.type "list",data:=.seq #[] }:=Heap.get?_push_size _ rfl
 have lti:it<s.heap.objs.size:=let⟨_,ho,_⟩:=hit;Heap.lt_size ho
 have ltl:l<s.heap.objs.size:=let⟨_,ho,_⟩:=hl;Heap.lt_size ho
 have hit1:(s.heap.push { cls:=.type "list",data:=.seq #[] }).IsRevIter it l ((items.size:Int)-1):=hit.at fun o e=>Heap.get?_push_of_some _ e
 have hl1:(s.heap.push { cls:=.type "list",data:=.seq #[] }).IsList l items:=hl.at fun o e=>Heap.get?_push_of_some _ e
 refine⟨⟨_,hS,rfl⟩,PySem.F.args_list_init_2 _ _,?_⟩
 show wpAny _ _ (do let old <-Builtin.List.listItems (.ref s.heap.objs.size);Builtin.List.listUpdate (.ref s.heap.objs.size) (fun _=>#[]);letGo old.toList.reverse;Builtin.List.listExtendWith (.ref s.heap.objs.size) (.ref it) .none) _ _ _
 refine wpAny_bind ?_
 unfold Builtin.List.listItems
 refine wpAny_bind (wpAny_seqItems hS rfl (wpAny_pure ?_))
 show wpAny _ _ (updateSeq s.heap.objs.size (fun _=>#[]) >>= fun _=>letGo (#[]:Array Value).toList.reverse >>= fun _=>Builtin.List.listExtendWith (.ref s.heap.objs.size) (.ref it) .none) _ _ _
 refine wpAny_bind (wpAny_updateSeq hS rfl ?_)
 have hS₂:=Heap.get?_update_self (Obj.mapSeq (fun _=>(#[]:Array Value))) hS rfl
 have oth:∀b o,b≠s.heap.objs.size->(s.heap.push { cls:=.type "list",data:=.seq #[] }).get? b=some o->((s.heap.push { cls:=.type "list",data:=.seq #[] }).update s.heap.objs.size (Obj.mapSeq (fun _=>(#[]:Array Value)))).get? b=some o:=
  fun b o hb e=>(Heap.get?_update_other _ _ (Ne.symm hb)).trans e
 refine wpAny_bind (wpAny_letGo ?_)
 refine Ek (A:=A.in1) hh (hit1.at fun o e=>oth _ o (Nat.ne_of_lt lti) e) (hl1.at fun o e=>oth _ o (Nat.ne_of_lt ltl) e) hne (Nat.ne_of_gt lti) (Nat.ne_of_gt ltl) .none _ hS₂ (fun h' tk acc' c' hk hS' hacc=>?_) hn
 exact⟨rfl,hQ h' tk acc' c' (fun b o hb e=>hk b o (Nat.ne_of_lt (Heap.lt_size e)) hb (oth b o (Nat.ne_of_lt (Heap.lt_size e)) (Heap.get?_push_of_some _ e))) hS' hacc⟩
end
theorem rS:bootBuiltins "list"=some (.type "list"):=by decide +kernel
def Cp(K:W.Frag)(ta:TA):TE:=fun σ H Q=>ta σ H fun vs H1=>∃a xs,vs=[.ref a]/\aV K H1 a xs/\∀q,H1 q=none->Q (.ref q) (aI H1 q (.lst xs.reverse))
theorem yJ {X:Cx} {e:Expr} {ta:TA} {p p2 pos pos2:Pos} (hc:X.calm=true) (hm1:X.mg "list"=none) (hm2:X.mg "reversed"=none) (ha:PA X [e] ta) (hg1:Gl X "list":=by rfl) (hg2:Gl X "reversed":=by rfl) (hs:starEach [e] X.env=[(false,eval e X.env)]:=by rfl) (hs2:starEach [.Call (.Name "reversed" p2) [e] [] pos2] X.env=(false,eval (.Call (.Name "reversed" p2) [e] [] pos2) X.env)::starEach [] X.env:=by rfl) :PE X (.Call (.Name "list" p) [.Call (.Name "reversed" p2) [e] [] pos2] [] pos) (Cp X.K ta):=by
 intro pins s σ H Q I h;refine wpAny_Call_Name_kw (lQ I hg1 hm1 rS ?_);refine PyProof.Rows.callWith_type1 ?_ hs2 rfl;rw[hs2];refine Calls.spliced_cons ?_;refine Call_ (lQ I hg2 hm2 kY (PyProof.Rows.callWith_type1 (cA (ha pos2 pins s σ H _ I h) fun us s1⟨vs,H1,I1,r1,q1⟩=>?_) hs rfl));obtain⟨a,xs,e,hq,q⟩:=q1;subst e;cases r1 with
 |cons r rr=>
  cases rr;cases r;obtain⟨its,rv,p',hz⟩:=I1.list hq;have hl:=rv.length;have lta:a<s1.heap.objs.size:=let⟨_,_,ho,_⟩:=p';Heap.lt_size ho;refine call_reversed_list p'.isList (Calls.spliced_nil ?_);refine tP (items:=its.toArray) (I1.ok.hd hc) ⟨_,Heap.get?_push_size _ rfl,rfl,rfl⟩ (p'.isList.at fun o e=>Heap.get?_push_of_some _ e) (Nat.ne_of_lt lta) (by rw[List.size_toArray,<-hl];exact hz) fun h' tk acc' c' hk hD hacc=>?_;have kp:∀b u,s1.heap.get? b=some u->h'.get? b=some u:=fun b u eb=>hk b u (Nat.ne_of_lt (Heap.lt_size eb)) (Heap.get?_push_of_some _ eb);rw[Heap.size_push]at hD⊢;have hfr:H1 (s1.heap.objs.size+1)=none:=I1.hok.fresh (by omega);refine⟨.ref (s1.heap.objs.size+1),_,I1.laid (a:=s1.heap.objs.size+1) (o:=.lst xs.reverse) kp (by omega) ⟨by rw[List.length_reverse];exact hz,acc'.toList,c',?_,by rw[hD]⟩,rfl,q _ hfr⟩
  have ea:acc'.toList=its.reverse:=by
   apply List.ext_getElem?;intro j;have sz:acc'.size=its.length:=by have:=hacc.1;simpa using this
   by_cases hj:j<its.length
   ·have h1:j<acc'.size:=by rw[sz];exact hj
    have h2:=hacc.2 j acc'[j] (Array.getElem?_eq_getElem h1);rw[List.getElem?_reverse hj,Array.getElem?_toList,Array.getElem?_eq_getElem h1,<-h2];simp
   ·rw[List.getElem?_eq_none (by rw[Array.length_toList,sz];omega),List.getElem?_eq_none (by rw[List.length_reverse];omega)]
  rw[ea];exact rv.reverse
end L2
namespace HT
open PySem PyProof.Rows PySem.SeqAt
open PySem.AutoSeq1 (wpAny_loadPart')
open PySem.MeetsSeq PySem.MeetsSeq2 PySem.MeetsSeq3
theorem ib:∀{vs:List Value}{ns:List Int}{i:Nat}{n:Int},IntsAre vs ns->ns[i]?=some n->∃t,vs[i]?=some (.int n t)
 |_,_,_,_,.nil,h=>by simp at h
 |_,_,0,n,.cons m t _,h=>by
  have:m=n:=by simpa using h
  subst this;exact⟨t,rfl⟩
 |_,_,i+1,n,.cons m t r,h=>ib (i:=i) r (by simpa using h)
theorem Cw{ns ms:List Int}{i:Nat}{a c:Int}(h1:ns[i]?=some a)(h2:ms[i]?=some c):lexLt (ns.drop i) (ms.drop i)=if a=c then lexLt (ns.drop (i+1)) (ms.drop (i+1))else decide (a<c):=by obtain⟨hi,rfl⟩:=List.getElem?_eq_some_iff.mp h1;obtain⟨hj,rfl⟩:=List.getElem?_eq_some_iff.mp h2;rw[List.drop_eq_getElem_cons hi,List.drop_eq_getElem_cons hj,zE]
theorem DY{ns ms:List Int}{i:Nat}(h1:i<=ns.length)(h2:i<=ms.length)(h:i=ns.length\/i=ms.length):lexLt (ns.drop i) (ms.drop i)=decide (ns.length<ms.length):=by
 by_cases c1:i=ns.length
 ·rw[(List.drop_eq_nil_of_le (by omega):ns.drop i=[])];by_cases c2:i=ms.length
  ·rw[(List.drop_eq_nil_of_le (by omega):ms.drop i=[]),tL];exact(decide_eq_false (by omega)).symm
  ·rw[List.drop_eq_getElem_cons (l:=ms) (by omega),rM];exact(decide_eq_true (by omega)).symm
 ·have c2:i=ms.length:=h.resolve_left c1;rw[(List.drop_eq_nil_of_le (by omega):ms.drop i=[]),List.drop_eq_getElem_cons (l:=ns) (by omega),tE];exact(decide_eq_false (by omega)).symm
theorem wB(l b:Addr)(items items2:Array Value)(n n2:Nat)(dd dd2:Option Addr)(sl sl2:Array (Option Value))(ns ms:List Int)(hi:IntsAre items.toList ns)(hj:IntsAre items2.toList ms)(k:Nat):∀i:Nat,items.size-i=k->i<=ns.length->i<=ms.length->Meets (Builtin.«list.__eq__.loop» ⟨[.ref l,.ref b,rawInt i,rawInt 0],[]⟩) (fun A R s=>s.heap.get? l=some { cls:=.type "list",dict:=dd,data:=.seq items n,slots:=sl }/\s.heap.get? b=some { cls:=.type "list",dict:=dd2,data:=.seq items2 n2,slots:=sl2 }/\R (.ok (.ret (.bool (lexLt (ns.drop i) (ms.drop i))))) s):=by
 have z1:items.size=ns.length:=by rw[<-hi.length];simp
 have z2:items2.size=ms.length:=by rw[<-hj.length];simp
 have fin:∀i:Nat,i<=ns.length->i<=ms.length->(i=ns.length\/i=ms.length)->Meets (Builtin.«list.__eq__.loop» ⟨[.ref l,.ref b,rawInt i,rawInt 0],[]⟩) (fun A R s=>s.heap.get? l=some { cls:=.type "list",dict:=dd,data:=.seq items n,slots:=sl }/\s.heap.get? b=some { cls:=.type "list",dict:=dd2,data:=.seq items2 n2,slots:=sl2 }/\R (.ok (.ret (.bool (lexLt (ns.drop i) (ms.drop i))))) s):=by
  intro i h1 h2 hh prog w A R s h;obtain⟨hp,g,d,tk,os⟩:=s;obtain⟨hl,hb,h⟩:=h;rw[DY h1 h2 hh,<-z1,<-z2]at h;wp_walk using wpAny_loadPart' hl,wpAny_loadPart' hb;rcases hh with hh|hh
  ·have hi1:items[((i:Nat):Int).toNat]?=none:=by simp;omega
   rw[hi1];wp_walk using wpAny_loadPart' hl,wpAny_loadPart' hb;exact h
  ·have hi2:items2[((i:Nat):Int).toNat]?=none:=by simp;omega
   rw[hi2];cases items[((i:Nat):Int).toNat]? with
   |none=>wp_walk using wpAny_loadPart' hl,wpAny_loadPart' hb;exact h
   |some x=>wp_walk using wpAny_loadPart' hl,wpAny_loadPart' hb;exact h
 induction k with
 |zero=>intro i hk h1 h2;exact fin i h1 h2 (.inl (by omega))
 |succ k ih=>
  intro i hk h1 h2;by_cases c:i=ms.length
  ·exact fin i h1 h2 (.inr c)
  ·intro prog w A R s h;obtain⟨hp,g,d,tk,os⟩:=s;obtain⟨hl,hb,h⟩:=h;have a1:ns[i]?=some ns[i]:=List.getElem?_eq_getElem (by omega);have a2:ms[i]?=some ms[i]:=List.getElem?_eq_getElem (by omega);obtain⟨t,e1⟩:=ib hi a1;obtain⟨u,e2⟩:=ib hj a2;have hi1:items[((i:Nat):Int).toNat]?=some (.int ns[i] t):=by show items[i]?=_;rw[<-Array.getElem?_toList];exact e1
   have hi2:items2[((i:Nat):Int).toNat]?=some (.int ms[i] u):=by show items2[i]?=_;rw[<-Array.getElem?_toList];exact e2
   rw[Cw a1 a2]at h;have hc:((i:Int)+1)=((i+1:Nat):Int):=by push_cast;rfl
   obtain⟨e,he,hiff⟩:=Dc A.in1 ⟨hp,g,d,tk,os⟩ ns[i] t ms[i] u;wp_walk using wpAny_loadPart' hl,wpAny_loadPart' hb;rw[hi1,hi2];refine wpAny_bind (he prog w _ _ ?_);cases e with
   |true=>rw[if_pos (hiff.mp rfl)]at h;wp_walk;rw[hc];exact⟨plainId_quiet plain_eq_loop _,codeAny_builtin entry_eq_loop (by rw[Around.under_plainId plain_eq_loop _];exact ih (i+1) (by omega) (by omega) (by omega) prog w A R _ ⟨hl,hb,h⟩)⟩
   |false=>rw[if_neg (fun q=>absurd (hiff.mpr q) Bool.false_ne_true)]at h;have hri:=rcLt_int A.in1 ⟨hp,g,d,tk,os⟩ ns[i] t ms[i] u prog w;wp_walk using wpAny_loadPart' hl,wpAny_loadPart' hb;rw[hi1,hi2];wp_walk using hri;exact h
theorem vV(l b:Addr)(items items2:Array Value)(n n2:Nat)(dd dd2:Option Addr)(sl sl2:Array (Option Value))(ns ms:List Int)(hi:IntsAre items.toList ns)(hj:IntsAre items2.toList ms):Meets (Builtin.«list.__lt__» ⟨[.ref l,.ref b],[]⟩) (fun A R s=>s.heap.get? l=some { cls:=.type "list",dict:=dd,data:=.seq items n,slots:=sl }/\s.heap.get? b=some { cls:=.type "list",dict:=dd2,data:=.seq items2 n2,slots:=sl2 }/\R (.ok (.ret (.bool (lexLt ns ms)))) s):=by intro prog w A R s h;obtain⟨hp,g,d,tk,os⟩:=s;obtain⟨hl,hb,h⟩:=h;have f3:=AutoSeq1.sub_list_list;wp_walk using wpAny_loadPart' hl,wpAny_loadPart' hb;exact⟨plainId_quiet plain_eq_loop _,codeAny_builtin entry_eq_loop (by rw[Around.under_plainId plain_eq_loop _];exact wB l b items items2 n n2 dd dd2 sl sl2 ns ms hi hj _ 0 rfl (Nat.zero_le _) (Nat.zero_le _) prog w A R _ ⟨hl,hb,h⟩)⟩
def LtAt(A:Around)(s:Shared)(y x:Value)(b:Bool):Prop:=∀(prog:Program)(w:World)(E:Value->Shared->Prop)(Q:Value->Shared->Prop),Q (.bool b) s->wpAny (model prog w) A (richCompare .Lt y x) Q E s
theorem LtAt.lists{A:Around}{s:Shared}{l b:Addr}{items items2:Array Value}{ns ms:List Int}(hl:s.heap.IsList l items)(hb:s.heap.IsList b items2)(hi:IntsAre items.toList ns)(hj:IntsAre items2.toList ms)(hu:A.units<cLine):LtAt A s (.ref l) (.ref b) (lexLt ns ms):=fun prog w E Q h=>by obtain⟨⟨cls,dd,data,sl⟩,ho,hc,n,hd⟩:=id hl;obtain⟨⟨cls2,dd2,data2,sl2⟩,ho2,hc2,n2,hd2⟩:=id hb;simp only at hc hd hc2 hd2;subst hc hd hc2 hd2;exact richCompare_meets_room (op:=.Lt) ⟨_,ho,rfl⟩ ⟨_,ho2,rfl⟩ F.slot_list_lt F.entry_list_lt (F.args_list_lt_2 _ _) (vV l b items items2 n n2 dd dd2 sl sl2 ns ms hi hj) ⟨ho,ho2,show Value.bool (lexLt ns ms)≠Value.notImplemented/\Q (.bool (lexLt ns ms)) s from⟨(fun x=>nomatch x),h⟩⟩ hu
theorem FK{ns ms:List Int}(h:ns.length=ms.length):(List.range ns.length).all (fun j=>decide (ns.getD j 0=ms.getD j 0))=decide (ns=ms):=by
 apply Bool.eq_iff_iff.mpr;rw[List.all_eq_true,decide_eq_true_eq];constructor
 ·intro q;apply List.ext_getElem h;intro j h1 h2;have:=q j (List.mem_range.mpr h1);rw[decide_eq_true_eq]at this;simpa[List.getD_eq_getElem?_getD,h1,h2]using this
 ·rintro rfl j _;simp
theorem EqAt.lists{A:Around}{s:Shared}{l b:Addr}{items items2:Array Value}{ns ms:List Int}(hl:s.heap.IsList l items)(hb:s.heap.IsList b items2)(hi:IntsAre items.toList ns)(hj:IntsAre items2.toList ms)(hu:A.units<cLine):EqAt A s (.ref l) (.ref b) (decide (ns=ms)):=by
 have z1:items.size=ns.length:=by rw[<-hi.length];simp
 have z2:items2.size=ms.length:=by rw[<-hj.length];simp
 by_cases c:l=b
 ·subst c;have e:items=items2:=by obtain⟨o,ho,_,n,hd⟩:=id hl;obtain⟨o2,ho2,_,n2,hd2⟩:=id hb;rw[ho]at ho2;cases ho2;rw[hd]at hd2;cases hd2;rfl
  subst e;have:ns=ms:=by apply List.ext_getElem (by omega);intro j h1 h2;obtain⟨t,e1⟩:=ib hi (List.getElem?_eq_getElem h1);obtain⟨u,e2⟩:=ib hj (List.getElem?_eq_getElem h2);rw[e1]at e2;injection Option.some.inj e2
  rw[decide_eq_true this];exact .same _
 ·refine .of_refs c ?_;by_cases hz:ns.length=ms.length
  ·rw[<-FK hz,<-z1];refine RcAt.lists hl hb (by omega) hu fun j h1 h2=>?_;obtain⟨t,e1⟩:=ib hi (List.getElem?_eq_getElem (show j<ns.length by omega));obtain⟨u,e2⟩:=ib hj (List.getElem?_eq_getElem (show j<ms.length by omega))
   have e1':items[j]=.int ns[j] t:=by
    have:items.toList[j]?=some items[j]:=by simp[h1]
    rw[e1]at this;exact(Option.some.inj this).symm
   have e2':items2[j]=.int ms[j] u:=by
    have:items2.toList[j]?=some items2[j]:=by simp[h2]
    rw[e2]at this;exact(Option.some.inj this).symm
   rw[e1',e2'];have:=SeqAt.EqAt.int_int (A:=A.in1) (s:=s) ns[j] t ms[j] u;have g1:ns.getD j 0=ns[j]:=by simp[List.getD_eq_getElem?_getD,show j<ns.length by omega]
   have g2:ms.getD j 0=ms[j]:=by simp[List.getD_eq_getElem?_getD,show j<ms.length by omega]
   rw[g1,g2];exact this
  ·rw[decide_eq_false (fun q=>hz (by rw[q]))];exact RcAt.lists_lengths hl hb (by simp;omega) hu
def lexB:List (Bool×Bool)->Bool
 |[]=>false
 |(true,_)::r=>lexB r
 |(false,b)::_=>b
inductive iL(A:Around)(s:Shared):List Value->List Value->List (Bool×Bool)->Prop
 |nil:iL A s [] [] []
 |cons {v u:Value} {vs us:List Value} {e b:Bool} {ps:List (Bool×Bool)}:EqAt A s v u e->(e=false->LtAt A s v u b)->iL A s vs us ps->iL A s (v::vs) (u::us) ((e,b)::ps)
theorem iL.length{A:Around}{s:Shared}:∀{vs us:List Value}{ps:List (Bool×Bool)},iL A s vs us ps->vs.length=us.length
 |_,_,_,.nil=>rfl
 |_,_,_,.cons _ _ r=>by rw[List.length_cons,List.length_cons,r.length]
theorem vZ(l b:Addr)(items items2:Array Value)(n n2:Nat)(dd dd2:Option Addr)(sl sl2:Array (Option Value))(ps:List (Bool×Bool)):Meets (Builtin.«tuple.__lt__» ⟨[.ref l,.ref b],[]⟩) (fun A R s=>s.heap.get? l=some { cls:=.type "tuple",dict:=dd,data:=.seq items n,slots:=sl }/\s.heap.get? b=some { cls:=.type "tuple",dict:=dd2,data:=.seq items2 n2,slots:=sl2 }/\iL A.in1 s items.toList items2.toList ps/\R (.ok (.ret (.bool (lexB ps)))) s):=.of_wp fun prog w A R s h=>by
  obtain⟨hp,g,d,tk,os⟩:=s;obtain⟨hl,hb,hps,h⟩:=h;have f2:=AutoSeq1.sub_tuple_tuple;have hsz:items.size=items2.size:=by have:=hps.length;simpa using this
  wp_walk using wpAny_loadPart' hl,wpAny_loadPart' hb,wpAny_forIn_list _ (fun rest b s'=>b.1=none/\s'=⟨hp,g,d,tk,os⟩/\∃(vs ws:List Value)(ps':List (Bool×Bool)),rest=vs.zip ws/\iL A.in1 ⟨hp,g,d,tk,os⟩ vs ws ps'/\R (.ok (.ret (.bool (lexB ps')))) ⟨hp,g,d,tk,os⟩) _
  case turn=>
   rintro⟨y,x⟩ rest b s' ⟨hb',rfl,vs,ws,ps',hz,hp',hR⟩;cases hp' with
   |nil=>rw[List.zip_nil_left]at hz;cases hz
   |@cons v u vs us e lt ps'' he hlt hr=>
    rw[List.zip_cons_cons]at hz;injection hz with hyx hrest
    injection hyx with hy hx
    subst hy hx;refine wpAny_bind (he prog w _ _ ?_);cases e with
    |true=>wp_walk;exact⟨rfl,rfl,_,_,_,hrest,hr,hR⟩
    |false=>have hri:=hlt rfl prog w;wp_walk using hri;exact⟨_,rfl,by simpa[lexB]using hR⟩
  case fin=>
   rintro⟨b1,b2⟩ s' ⟨hb',rfl,vs,ws,ps',hz,hp',hR⟩;simp only at hb';subst hb'
   have hv:lexB ps'=decide (items.size<items2.size):=by
    rw[decide_eq_false (by omega)];cases hp' with
    |nil=>rfl
    |cons he hlt hr=>rw[List.zip_cons_cons]at hz;cases hz
   rw[hv]at hR;wp_walk;exact⟨_,rfl,by simpa[Builtin.Tuple.tupleCompareSizes]using hR⟩
  case h=>exact⟨rfl,rfl,items.toList,items2.toList,ps,rfl,hps,h⟩
theorem lt_tupGen{prog:Program}{w:World}{A:Around}{E:Value->Shared->Prop}{s:Shared}{l b:Addr}{items items2:Array Value}{ps:List (Bool×Bool)}{Q:Value->Shared->Prop}(hl:IsTup s.heap l items)(hb:IsTup s.heap b items2) (hp:iL A.in1 s items.toList items2.toList ps) (hu:A.units<cLine) (h:Q (.bool (lexB ps)) s):wpAny (model prog w) A (compareOp .Lt (.ref l) (.ref b)) Q E s:=by obtain⟨⟨cls,dd,data,sl⟩,ho,hc,n,hd⟩:=id hl;obtain⟨⟨cls2,dd2,data2,sl2⟩,ho2,hc2,n2,hd2⟩:=id hb;simp only at hc hd hc2 hd2;subst hc hd hc2 hd2;exact richCompare_meets_room (op:=.Lt) ⟨_,ho,rfl⟩ ⟨_,ho2,rfl⟩ PySem.F.slot_tuple_lt PySem.F.entry_tuple_lt (PySem.F.args_tuple_lt_2 _ _) (vZ l b items items2 n n2 dd dd2 sl sl2 ps) ⟨ho,ho2,hp,show Value.bool (lexB ps)≠Value.notImplemented/\Q (.bool (lexB ps)) s from⟨(fun x=>nomatch x),h⟩⟩ hu
end HT
namespace L2
open PySem PySem.Spec PyProof.Rows
def DS(b1 b2:Int)(n1 n2 m1 m2:List Int):Bool:=HT.lexB [(decide (b1=b2),decide (b1<b2)),(decide (n1=n2),HT.lexLt n1 n2),(decide (m1=m2),HT.lexLt m1 m2)]
def Hx(K:W.Frag):R2:=fun x y H Q=>∃(t1 t2 l1 l2 r1 r2:Addr)(b1 b2:Int)(n1 n2 m1 m2:List Int),x=.ref t1/\y=.ref t2/\i6 K H t1 [.int b1,.ref l1,.ref r1]/\i6 K H t2 [.int b2,.ref l2,.ref r2]/\aV K H l1 (n1.map V.int)/\aV K H l2 (n2.map V.int)/\aV K H r1 (m1.map V.int)/\aV K H r2 (m2.map V.int)/\Q (.bl (DS b1 b2 n1 n2 m1 m2)) H
theorem zX{b:Int}{l r:Addr}{its:List Value}(h:aQ [.int b,.ref l,.ref r] its):∃t,its=[.int b t,.ref l,.ref r]:=by
 cases h with
 |cons r1 h=>
  cases h with
  |cons r2 h=>
   cases h with
   |cons r3 h=>cases h;obtain⟨t,rfl⟩:=r1;cases r2;cases r3;exact⟨t,rfl⟩
theorem Fe{X:Cx}(hu:X.A.units+64<cLine):om X (compareOp .Lt) (Hx X.K):=by
 intro pins s σ H x y v u Q I rx ry h;obtain⟨t1,t2,l1,l2,r1,r2,b1,b2,n1,n2,m1,m2,rfl,rfl,h1,h2,hl1,hl2,hr1,hr2,q⟩:=h;cases rx;cases ry;obtain⟨is1,v1,p1,_⟩:=I.tuple h1;obtain⟨is2,v2,p2,_⟩:=I.tuple h2;obtain⟨k1,rfl⟩:=zX v1;obtain⟨k2,rfl⟩:=zX v2;obtain⟨a1,w1,q1,_⟩:=I.list hl1;obtain⟨a2,w2,q2,_⟩:=I.list hl2;obtain⟨a3,w3,q3,_⟩:=I.list hr1;obtain⟨a4,w4,q4,_⟩:=I.list hr2;have un:X.A.in1.units<cLine:=by have:X.A.in1.units=X.A.units+1:=rfl;omega
 refine HT.lt_tupGen p1 p2 (ps:=[(decide (b1=b2),decide (b1<b2)),(decide (n1=n2),HT.lexLt n1 n2),(decide (m1=m2),HT.lexLt m1 m2)]) ?_ (by omega) ⟨.bl (DS b1 b2 n1 n2 m1 m2),H,I,rfl,q⟩;refine .cons ?_ (fun _=>HT.rcLt_int _ _ b1 k1 b2 k2) (.cons (HT.EqAt.lists q1.isList q2.isList (dw w1) (dw w2) un) (fun _=>HT.LtAt.lists q1.isList q2.isList (dw w1) (dw w2) un) (.cons (HT.EqAt.lists q3.isList q4.isList (dw w3) (dw w4) un) (fun _=>HT.LtAt.lists q3.isList q4.isList (dw w3) (dw w4) un) .nil));exact SeqAt.EqAt.int_int b1 k1 b2 k2
end L2
namespace L2
open PySem PySem.Spec PyProof.Rows
theorem Bw{P:Program}{w:World}{K:W.Frag}{tg:Expr}(it:Addr)(lo:Int)(n:Nat):wF P w K tg (BV lo n) [it] it (fun i h=>IsLongIter h it (lo+(i:Nat)*1) ((n:Int)-(i:Nat)) 1) where
 mem:=by simp
 obj:=fun i h st b hb=>by
  have e:b=it:=by simpa using hb
  subst e;exact⟨_,st,fun v z=>by have z':Data.fields _=Data.cell v:=z;cases z'⟩
 keep:=fun i h h' st k=>k it (by simp) _ st;item:=by intro X hP hw hK hc i pins s σ H E I hf st hg;subst hP hw hK;obtain⟨f0,f1,f2,f3,f4,f5⟩:=hf it (by simp);have W:=Walks.longrange (prog:=X.prog) (w:=X.w) (I.ok.hd hc) it lo 1 n;refine W.item i s _ _ hg st fun v h' tk hv st' kk=>?_;obtain⟨t,rfl⟩:=hv;have I1:aH X pins σ H { s with heap:=h',toks:=tk }:=I.turned (fun b o hb e=>kk b o (by simpa using hb) e) f0 f1 f3 f4 f5;refine⟨_,rfl,ym (s:={ s with heap:=h',toks:=tk }) (n:="longrange_iterator") st' rfl rfl (by decide) ⟨.int (lo+i),H,I1,⟨t,?_⟩,⟨rfl,rfl⟩,st',fun b hb=>(hf b hb).1⟩⟩;rw[Int.mul_one]
 done:=by intro X hP hw hK hc i pins s σ H E I hf st hg;subst hP hw hK;obtain⟨f0,f1,f2,f3,f4,f5⟩:=hf it (by simp);exact wpAny_pyNext_long_end (I.ok.hd hc) st (by have:n<=i:=hg;omega) fun h' eb=>⟨rfl,I.turned (t':=s.toks) (fun b o hb e=>eb b o hb e) f0 f1 f3 f4 f5⟩
 self:=fun _ _ _ _ _ st h=>wpAny_pyIter_longiter st h
section
variable{X:Cx}{tg:Expr}
theorem AU{pins:List (Addr×Obj)}{σ:St}{H:Hp}{s:Shared}{R:It->Hp->Prop}{E:Value->Shared->Prop}{lo hi:Int}{t u v:Tok}{tk:Nat}(I:aH X pins σ H s) (q:R (BV lo (hi-lo).toNat) H):wpAny (model X.prog X.w) X.A (pyIter (.ref s.heap.objs.size)) (G3 X pins σ tg R) E { s with heap:=s.heap.push { cls:=.type "range",data:=.fields #[.int lo t,.int hi u,.int 1 v] },toks:=tk }:=by
 have I1:aH X pins σ H { s with heap:=s.heap.push { cls:=.type "range",data:=.fields #[.int lo t,.int hi u,.int 1 v] },toks:=tk }:=I.kept fun b o e=>Heap.get?_push_of_some _ e;have e1:lo+((0:Nat):Int)*1=lo:=by simp
 have e2:(((hi-lo).toNat:Nat):Int)-((0:Nat):Int)=Builtin.Range.rangeSize lo hi 1:=by rw[rangeSize_one];split<;>omega
 have fp:∀b∈[(s.heap.push { cls:=.type "range",data:=.fields #[.int lo t,.int hi u,.int 1 v] }).objs.size],qJ X pins H b:=fun b hb=>by
  have e:b=(s.heap.push { cls:=.type "range",data:=.fields #[.int lo t,.int hi u,.int 1 v] }).objs.size:=by simpa using hb
  subst e;exact I1.fpOk (Nat.le_refl _) (I1.hok.fresh (Nat.le_refl _))
 cases hsm:Builtin.Range.small lo hi 1 with
 |true=>refine wpAny_pyIter_range (IsRange.new ..) hsm ?_;refine⟨(s.heap.push { cls:=.type "range",data:=.fields #[.int lo t,.int hi u,.int 1 v] }).objs.size,[(s.heap.push { cls:=.type "range",data:=.fields #[.int lo t,.int hi u,.int 1 v] }).objs.size],_,_,H,rfl,I1.kept (t':=tk) fun b o e=>Heap.get?_push_of_some _ e,zy _ lo (hi-lo).toNat,?_,fp,q⟩;show IsRangeIter _ _ (lo+((0:Nat):Int)*1) ((((hi-lo).toNat:Nat):Int)-((0:Nat):Int)) 1;rw[e1,e2];exact Heap.get?_push_size _ rfl
 |false=>refine wpAny_pyIter_longrange (IsRange.new ..) hsm ?_;refine⟨(s.heap.push { cls:=.type "range",data:=.fields #[.int lo t,.int hi u,.int 1 v] }).objs.size,[(s.heap.push { cls:=.type "range",data:=.fields #[.int lo t,.int hi u,.int 1 v] }).objs.size],_,_,H,rfl,I1.kept (t':=tk) fun b o e=>Heap.get?_push_of_some _ e,Bw _ lo (hi-lo).toNat,?_,fp,q⟩;show IsLongIter _ _ (lo+((0:Nat):Int)*1) ((((hi-lo).toNat:Nat):Int)-((0:Nat):Int)) 1;rw[e1,e2];exact Heap.get?_push_size _ rfl
def uB(ta:TA):TI:=fun σ H R=>ta σ H fun vs H1=>∃j:Int,vs=[.int j]/\R (BV 0 j.toNat) H1
theorem gV {a:Expr} {ta:TA} {p pos:Pos} (hg:Gl X "range") (hm:X.mg "range"=none) (ha:PA X [a] ta) (hs:starEach [a] X.env=[(false,eval a X.env)]:=by rfl):PI X tg (.Call (.Name "range" p) [a] [] pos) (uB ta):=by
 intro pins s σ H R I h;refine Call_ (lQ I hg hm boot_range (PyProof.Rows.callWith_type1 (cA (ha pos pins s σ H _ I h) fun us s1⟨vs,H1,I1,r1,q1⟩=>?_) hs rfl));obtain⟨j,e,q⟩:=q1;subst e;cases r1 with
 |cons r rr=>cases rr;obtain⟨t,rfl⟩:=r;exact call_range_1 (AU I1 (by simpa using q))
end
end L2
namespace Gp
open PySem PySem.Spec PyProof.Rows L2
def fv(i:Nat):Stmt:=PySem.Challenge.pw_gameworth_s01_answers.main.body.getD i (.Pass ⟨0,0,0,0⟩)
abbrev lq:Stmt:=bh (fv 10) 0
theorem qr:aE ["self","bit","rows","as_good","option"] ["self","bit","rows","as_good"] (aw lq):=⟨rfl,rfl,rfl,by decide +kernel,rfl,by decide +kernel,by decide +kernel⟩
abbrev dY:Stmt:=bh (fv 10) 1
theorem mZ:aE ["self"] ["self"] (aw dY):=⟨rfl,rfl,rfl,by decide +kernel,rfl,by decide +kernel,by decide +kernel⟩
abbrev qa:Stmt:=fv 11
theorem mV:aE ["parts","bits","part"] ["parts"] (aw qa):=⟨rfl,rfl,rfl,by decide +kernel,rfl,by decide +kernel,by decide +kernel⟩
abbrev kM:Stmt:=fv 12
theorem iK:aE ["parts","bits","part"] ["parts"] (aw kM):=⟨rfl,rfl,rfl,by decide +kernel,rfl,by decide +kernel,by decide +kernel⟩
abbrev jK:Stmt:=fv 13
theorem vS:aE ["x","y"] ["x","y"] (aw jK):=⟨rfl,rfl,rfl,by decide +kernel,rfl,by decide +kernel,by decide +kernel⟩
abbrev lJ:Stmt:=fv 14
theorem fW:aE ["part","places","lefts","rights","option"] ["part","places"] (aw lJ):=⟨rfl,rfl,rfl,by decide +kernel,rfl,by decide +kernel,by decide +kernel⟩
abbrev jH:Stmt:=bh (fv 15) 0
theorem vO:aE ["self","most_options"] ["self","most_options"] (aw jH):=⟨rfl,rfl,rfl,by decide +kernel,rfl,by decide +kernel,by decide +kernel⟩
abbrev fL:Stmt:=bh (fv 15) 1
theorem fz:aE ["self","game","part"] ["self","game"] (aw fL):=⟨rfl,rfl,rfl,by decide +kernel,rfl,by decide +kernel,by decide +kernel⟩
abbrev gp:Stmt:=bh (fv 15) 2
theorem j7:aE ["self","lefts","rights","under_lefts","option","over_rights","above","below","part","as_good","rows"] ["self","lefts","rights"] (aw gp):=⟨rfl,rfl,rfl,by decide +kernel,rfl,by decide +kernel,by decide +kernel⟩
abbrev fq:Stmt:=bh (fv 15) 3
theorem a9:aE ["self","side","options","as_good","other","bits","part","answers","row","answer"] ["self","side","options","as_good"] (aw fq):=⟨rfl,rfl,rfl,by decide +kernel,rfl,by decide +kernel,by decide +kernel⟩
abbrev fM:Stmt:=bh (fv 15) 4
theorem jf:aE ["self","rows","as_good","part","options_in_all","known"] ["self","rows","as_good"] (aw fM):=⟨rfl,rfl,rfl,by decide +kernel,rfl,by decide +kernel,by decide +kernel⟩
abbrev fC:Stmt:=bh (fv 15) 5
theorem pN:aE ["self"] ["self"] (aw fC):=⟨rfl,rfl,rfl,by decide +kernel,rfl,by decide +kernel,by decide +kernel⟩
abbrev cI:Stmt:=bh (fv 15) 6
theorem eO:aE ["self","part","places","place","known","key"] ["self","part"] (aw cI):=⟨rfl,rfl,rfl,by decide +kernel,rfl,by decide +kernel,by decide +kernel⟩
abbrev eT:Stmt:=bh (fv 15) 7
theorem iJ:aE ["self","bits","part"] ["self","bits"] (aw eT):=⟨rfl,rfl,rfl,by decide +kernel,rfl,by decide +kernel,by decide +kernel⟩
abbrev dX:Stmt:=bh (fv 15) 8
theorem gz:aE ["self","bits","kept","pair","total"] ["self","bits"] (aw dX):=⟨rfl,rfl,rfl,by decide +kernel,rfl,by decide +kernel,by decide +kernel⟩
abbrev lD:Stmt:=fv 17
theorem wO:aE ["table"] ["table"] (aw lD):=⟨rfl,rfl,rfl,by decide +kernel,rfl,by decide +kernel,by decide +kernel⟩
abbrev iC:Stmt:=fv 18
theorem sx:aE ["table","swapped","lefts","rights"] ["table","swapped","lefts","rights"] (aw iC):=⟨rfl,rfl,rfl,by decide +kernel,rfl,by decide +kernel,by decide +kernel⟩
abbrev iX:Stmt:=fv 19
theorem nv:aE ["table","m","k","swapped","whole","rest","low","step","high","width","middle"] ["table","m","k"] (aw iX):=⟨rfl,rfl,rfl,by decide +kernel,rfl,by decide +kernel,by decide +kernel⟩
abbrev lG:Stmt:=fv 20
theorem qg:aE ["table","n","heap","smaller","step"] ["table","n"] (aw lG):=⟨rfl,rfl,rfl,by decide +kernel,rfl,by decide +kernel,by decide +kernel⟩
abbrev jQ:Stmt:=fv 21
theorem oO:aE ["table","game","turned","part","lefts","rights","option"] ["table","game"] (aw jQ):=⟨rfl,rfl,rfl,by decide +kernel,rfl,by decide +kernel,by decide +kernel⟩
abbrev nH:Stmt:=fv 22
theorem sh:aE ["table","a","b","parts_of_b","x","y","pair","lefts","rights"] ["table","a","b"] (aw nH):=⟨rfl,rfl,rfl,by decide +kernel,rfl,by decide +kernel,by decide +kernel⟩
abbrev iY:Stmt:=fv 23
theorem nh:aE ["table","side","x","y","moves_in_x","moves_in_y","option"] ["table","side","x","y"] (aw iY):=⟨rfl,rfl,rfl,by decide +kernel,rfl,by decide +kernel,by decide +kernel⟩
abbrev kW:Stmt:=fv 26
theorem xu:aE ["number"] ["number"] (aw kW):=⟨rfl,rfl,rfl,by decide +kernel,rfl,by decide +kernel,by decide +kernel⟩
abbrev gk:Stmt:=fv 27
theorem j5:aE ["form","parts","seen","waiting","part"] ["form"] (aw gk):=⟨rfl,rfl,rfl,by decide +kernel,rfl,by decide +kernel,by decide +kernel⟩
abbrev n6:Stmt:=fv 28
theorem sY:aE ["form","parts","numbers","number","part","text","option"] ["form"] (aw n6):=⟨rfl,rfl,rfl,by decide +kernel,rfl,by decide +kernel,by decide +kernel⟩
abbrev jM:Stmt:=fv 29
theorem oI:aE ["text","place"] ["text"] (aw jM):=⟨rfl,rfl,rfl,by decide +kernel,rfl,by decide +kernel,by decide +kernel⟩
abbrev qb:Stmt:=fv 30
theorem uj:aE ["text","numbers","rows","place","part","middle","end"] ["text"] (aw qb):=⟨rfl,rfl,rfl,by decide +kernel,rfl,by decide +kernel,by decide +kernel⟩
abbrev gw:Stmt:=fv 31
theorem j3:aE ["rows","done","number","ready"] ["rows"] (aw gw):=⟨rfl,rfl,rfl,by decide +kernel,rfl,by decide +kernel,by decide +kernel⟩
abbrev n8:Stmt:=fv 32
theorem rX:aE ["rows_of_part","done","option"] ["rows_of_part","done"] (aw n8):=⟨rfl,rfl,rfl,by decide +kernel,rfl,by decide +kernel,by decide +kernel⟩
abbrev iA:Stmt:=fv 33
theorem ki:aE ["table","rows","turns","forms","number","lefts","rights","option"] ["table","rows","turns"] (aw iA):=⟨rfl,rfl,rfl,by decide +kernel,rfl,by decide +kernel,by decide +kernel⟩
abbrev iy:Stmt:=fv 34
theorem kC:aE ["table","text","rows","turns","apart"] ["table","text"] (aw iy):=⟨rfl,rfl,rfl,by decide +kernel,rfl,by decide +kernel,by decide +kernel⟩
abbrev iW:Stmt:=fv 45
theorem m9:aE ["numbers","number"] ["numbers"] (aw iW):=⟨rfl,rfl,rfl,by decide +kernel,rfl,by decide +kernel,by decide +kernel⟩
abbrev jz:Stmt:=fv 46
theorem vT:aE ["side"] ["side"] (aw jz):=⟨rfl,rfl,rfl,by decide +kernel,rfl,by decide +kernel,by decide +kernel⟩
abbrev kI:Stmt:=fv 47
theorem xf:aE ["row"] ["row"] (aw kI):=⟨rfl,rfl,rfl,by decide +kernel,rfl,by decide +kernel,by decide +kernel⟩
abbrev jW:Stmt:=bh (fv 48) 0
theorem vK:aE ["self"] ["self"] (aw jW):=⟨rfl,rfl,rfl,by decide +kernel,rfl,by decide +kernel,by decide +kernel⟩
abbrev j0:Stmt:=bh (fv 48) 1
theorem vW:aE ["self"] ["self"] (aw j0):=⟨rfl,rfl,rfl,by decide +kernel,rfl,by decide +kernel,by decide +kernel⟩
abbrev eE:Stmt:=bh (fv 48) 2
theorem nN:aE ["self","d","m","k"] ["self","d","m","k"] (aw eE):=⟨rfl,rfl,rfl,by decide +kernel,rfl,by decide +kernel,by decide +kernel⟩
abbrev fN:Stmt:=bh (fv 48) 3
theorem pM:aE ["self","d","n"] ["self","d","n"] (aw fN):=⟨rfl,rfl,rfl,by decide +kernel,rfl,by decide +kernel,by decide +kernel⟩
abbrev fG:Stmt:=bh (fv 48) 4
theorem jj:aE ["self","d","left_slots","right_slots","lefts","rights","slot"] ["self","d","left_slots","right_slots"] (aw fG):=⟨rfl,rfl,rfl,by decide +kernel,rfl,by decide +kernel,by decide +kernel⟩
abbrev eV:Stmt:=bh (fv 48) 5
theorem oM:aE ["self","d","a"] ["self","d","a"] (aw eV):=⟨rfl,rfl,rfl,by decide +kernel,rfl,by decide +kernel,by decide +kernel⟩
abbrev gu:Stmt:=bh (fv 48) 6
theorem qL:aE ["self","d","a","b"] ["self","d","a","b"] (aw gu):=⟨rfl,rfl,rfl,by decide +kernel,rfl,by decide +kernel,by decide +kernel⟩
abbrev fu:Stmt:=bh (fv 48) 7
theorem oA:aE ["self","d","a","n"] ["self","d","a","n"] (aw fu):=⟨rfl,rfl,rfl,by decide +kernel,rfl,by decide +kernel,by decide +kernel⟩
abbrev eh:Stmt:=bh (fv 48) 8
theorem gY:aE ["self","game","n","total","step"] ["self","game","n"] (aw eh):=⟨rfl,rfl,rfl,by decide +kernel,rfl,by decide +kernel,by decide +kernel⟩
abbrev eA:Stmt:=bh (fv 48) 9
theorem iw:aE ["self","d","a","side","i","row"] ["self","d","a","side","i"] (aw eA):=⟨rfl,rfl,rfl,by decide +kernel,rfl,by decide +kernel,by decide +kernel⟩
abbrev fD:Stmt:=bh (fv 48) 10
theorem pC:aE ["self","d","text"] ["self","d","text"] (aw fD):=⟨rfl,rfl,rfl,by decide +kernel,rfl,by decide +kernel,by decide +kernel⟩
abbrev eI:Stmt:=bh (fv 48) 11
theorem ij:aE ["self","a","b","x","y"] ["self","a","b"] (aw eI):=⟨rfl,rfl,rfl,by decide +kernel,rfl,by decide +kernel,by decide +kernel⟩
abbrev ei:Stmt:=bh (fv 48) 12
theorem h_:aE ["self","a","form","parts","options_in_all","part"] ["self","a"] (aw ei):=⟨rfl,rfl,rfl,by decide +kernel,rfl,by decide +kernel,by decide +kernel⟩
abbrev fe:Stmt:=bh (fv 48) 13
theorem oB:aE ["self"] ["self"] (aw fe):=⟨rfl,rfl,rfl,by decide +kernel,rfl,by decide +kernel,by decide +kernel⟩
abbrev eJ:Stmt:=bh (fv 48) 14
theorem nQ:aE ["self","a"] ["self","a"] (aw eJ):=⟨rfl,rfl,rfl,by decide +kernel,rfl,by decide +kernel,by decide +kernel⟩
abbrev ja:Stmt:=bh (fv 64) 0
theorem ub:aE ["self","calls"] ["self","calls"] (aw ja):=⟨rfl,rfl,rfl,by decide +kernel,rfl,by decide +kernel,by decide +kernel⟩
abbrev eW:Stmt:=bh (fv 64) 1
theorem oS:aE ["self"] ["self"] (aw eW):=⟨rfl,rfl,rfl,by decide +kernel,rfl,by decide +kernel,by decide +kernel⟩
abbrev dE:Stmt:=bh (fv 64) 2
theorem lL:aE ["self"] ["self"] (aw dE):=⟨rfl,rfl,rfl,by decide +kernel,rfl,by decide +kernel,by decide +kernel⟩
abbrev dm:Stmt:=bh (fv 64) 3
theorem kg:aE ["self","how_many"] ["self","how_many"] (aw dm):=⟨rfl,rfl,rfl,by decide +kernel,rfl,by decide +kernel,by decide +kernel⟩
abbrev fh:Stmt:=bh (fv 64) 4
theorem iO:aE ["self","how_many"] ["self"] (aw fh):=⟨rfl,rfl,rfl,by decide +kernel,rfl,by decide +kernel,by decide +kernel⟩
abbrev nO:Stmt:=fv 65
theorem yS:aE ["slots","call","numbers","rows"] ["slots","call","numbers","rows"] (aw nO):=⟨rfl,rfl,rfl,by decide +kernel,rfl,by decide +kernel,by decide +kernel⟩
abbrev km:Stmt:=fv 66
theorem qx:aE ["slots","call","numbers","rows","text"] ["slots","call","numbers","rows"] (aw km):=⟨rfl,rfl,rfl,by decide +kernel,rfl,by decide +kernel,by decide +kernel⟩
abbrev rE:Stmt:=fv 67
theorem wZ:aE ["slots","call","numbers","rows","answered"] ["slots","call","numbers","rows"] (aw rE):=⟨rfl,rfl,rfl,by decide +kernel,rfl,by decide +kernel,by decide +kernel⟩
abbrev pE:Stmt:=fv 68
theorem uO:aE ["calls","reader","slots","given","call","numbers","rows","answered","row"] ["calls"] (aw pE):=⟨rfl,rfl,rfl,by decide +kernel,rfl,by decide +kernel,by decide +kernel⟩
end Gp
namespace Gp
open PySem PySem.Spec L2 Gth
open PyProof.Rows hiding St
def aD(t:TE)(σ:St)(H:Hp)(v:V):Prop:=∀Q:VK,Q v H->t σ H Q
def Yt(t:TT)(σ:St)(H:Hp)(b:Bool):Prop:=∀Q:Bool->Hp->Prop,Q b H->t σ H Q
section
variable{K:W.Frag}{σ:St}{H:Hp}{ta tb:TE}{v w:V}{i j:Int}
theorem aD.var{n:Nat}(h:σ[n]?=some (some v)):aD (aZ n) σ H v:=fun _ q=>⟨v,h,q⟩
theorem yv{n:Nat}(h:σ[n]?=some (some v):=by rfl):aD (aZ n) σ H v:=.var h
theorem aD.c:aD (tC v) σ H v:=fun _ q=>q
theorem aD.fld{a C dx:Addr}{fs:List (Str×V)}{f:Str}(h:aD ta σ H (.ref a))(e:H a=some (.ins C dx fs))(c:qH K C)(n:bF K C f)(l:fs.lookup f=some v):aD (dO K ta f) σ H v:=fun _ q=>h _ ⟨a,C,dx,fs,v,rfl,e,c,n,l,q⟩
theorem aD.i0{g:Int->Int->V}(ha:aD ta σ H (.int i))(hb:aD tb σ H (.int j)):aD (fB (n9 g) ta tb) σ H (g i j):=fun _ q=>ha _ (hb _ ⟨i,j,rfl,rfl,q⟩)
theorem aD.ic{C:Int->Int->Prop}{g:Int->Int->V}(ha:aD ta σ H (.int i))(hb:aD tb σ H (.int j))(hc:C i j):aD (fB (rI C g) ta tb) σ H (g i j):=fun _ q=>ha _ (hb _ ⟨i,j,rfl,rfl,hc,q⟩)
theorem aD.u{g:Int->V}(ha:aD ta σ H (.int i)):aD (HM (rU g) ta) σ H (g i):=fun _ q=>ha _ ⟨i,rfl,q⟩
theorem aD.ixL{p:Addr}{xs:List V}(ha:aD ta σ H (.ref p))(hb:aD tb σ H (.int i))(e:aV K H p xs)(l:wL xs i=some v):aD (fB (kh K) ta tb) σ H v:=fun _ q=>ha _ (hb _ ⟨p,xs,i,v,rfl,rfl,e,l,q⟩)
theorem aD.ixT{p:Addr}{xs:List V}(ha:aD ta σ H (.ref p))(hb:aD tb σ H (.int i))(e:i6 K H p xs)(l:wL xs i=some v):aD (fB (vY K) ta tb) σ H v:=fun _ q=>ha _ (hb _ ⟨p,xs,i,v,rfl,rfl,e,l,q⟩)
theorem aD.dget{a:Addr}{y:V}(ha:aD ta σ H (.ref a))(hb:aD tb σ H y)(g:gq H a y (some v)):aD (Aj ta tb) σ H v:=fun _ q=>ha _ (hb _ ⟨a,v,rfl,g,q⟩)
theorem aD.din{a:Addr}{y:V}{o:Option V}(ha:aD ta σ H y)(hb:aD tb σ H (.ref a))(g:gq H a y o):aD (GK ta tb) σ H (.bl o.isSome):=fun _ q=>ha _ (hb _ ⟨a,o,rfl,g,q⟩)
theorem aD.dnotin{a:Addr}{y:V}{o:Option V}(ha:aD ta σ H y)(hb:aD tb σ H (.ref a))(g:gq H a y o):aD (Ar ta tb) σ H (.bl (!o.isSome)):=fun _ q=>ha _ (hb _ ⟨a,o,rfl,g,q⟩)
theorem aD.eq(ha:aD ta σ H (.int i))(hb:aD tb σ H (.int j)):aD (fB GY ta tb) σ H (.bl (decide (i=j))):=fun _ q=>ha _ (hb _ ⟨rfl,by
  have e:decide ((V.int i)=V.int j)=decide (i=j):=by by_cases c:i=j<;>simp[c]
  rw[e];exact q⟩)
theorem aD.ne(ha:aD ta σ H (.int i))(hb:aD tb σ H (.int j)):aD (fB HI ta tb) σ H (.bl (!decide (i=j))):=fun _ q=>ha _ (hb _ ⟨rfl,by
  have e:decide ((V.int i)=V.int j)=decide (i=j):=by by_cases c:i=j<;>simp[c]
  rw[e];exact q⟩)
theorem aD.len{t:TA}{p:Addr}{ys:List V}(ht:∀Q,Q [.ref p] H->t σ H Q)(e:aV K H p ys):aD (Ab (fun xs H Q=>∃p ys,xs=[.ref p]/\(aV K H p ys\/i6 K H p ys)/\Q (.int ys.length) H) t) σ H (.int ys.length):=fun _ q=>ht _ ⟨p,ys,rfl,.inl e,q⟩
theorem aD.one(h:aD ta σ H v)(Q:List V->Hp->Prop)(q:Q [v] H):a_ ta ck σ H Q:=h _ q
theorem Yt.b{b:Bool}(h:aD ta σ H (.bl b)):Yt (uF ta) σ H b:=fun _ q=>h _ ⟨b,rfl,q⟩
theorem Yt.n(h:aD ta σ H (.int i)):Yt (fun σ H Q=>ta σ H fun x H'=>∃k,vh K x H' k/\Q k H') σ H (i !=0):=fun _ q=>h _ ⟨_,rfl,q⟩
theorem Yt.bl{b:Bool}(h:aD ta σ H (.bl b)):Yt (fun σ H Q=>ta σ H fun x H'=>∃k,vh K x H' k/\Q k H') σ H b:=fun _ q=>h _ ⟨_,rfl,q⟩
theorem Yt.not{t:TT}{b:Bool}(h:Yt t σ H b):Yt (FE t) σ H (!b):=fun _ q=>h _ q
theorem Yt.or{t u:TT}{a b:Bool}(h:Yt t σ H a)(h':a=false->Yt u σ H b):Yt (Hj t u) σ H (a||b):=fun Q q=>h _ (by
 cases a with
 |true=>rw[if_pos rfl];exact q
 |false=>rw[if_neg (by decide)];exact h' rfl _ q)
theorem Yt.and{t u:TT}{a b:Bool}(h:Yt t σ H a)(h':a=true->Yt u σ H b):Yt (FA t u) σ H (a&&b):=fun Q q=>h _ (by
 cases a with
 |true=>rw[if_pos rfl];exact h' rfl _ q
 |false=>rw[if_neg (by decide)];exact q)
theorem DD{c:TT}{t u:TS}{b:Bool}{D:bN}(h:Yt c σ H b)(h1:b=true->t D σ H)(h2:b=false->u D σ H):va c t u D σ H:=h _ (by
 cases b with
 |true=>rw[if_pos rfl];exact h1 rfl
 |false=>rw[if_neg (by decide)];exact h2 rfl)
end
section
variable{σ:St}{H:Hp}{te:TE}{v:V}{D:bN}{i:Nat}
theorem sq{t u:TS}(h:t { D with nx:=u D } σ H):ve t u D σ H:=h
theorem iG(h:aD te σ H v)(q:D.rt v H):ke te D σ H:=h _ q
theorem fH(h:aD te σ H v)(q:D.nx (σ.set i (some v)) H):fV te (bw i) D σ H:=h _ q
theorem yX{g:Int->Int->V}{a b:Int}(h:aD te σ H (.int b))(q:D.nx (σ.set i (some (g a b))) H)(hx:σ[i]?=some (some (.int a)):=by rfl):DF i te (n9 g) D σ H:=⟨_,hx,h _ ⟨a,b,rfl,rfl,q⟩⟩
def YA(t:TA)(σ:St)(H:Hp)(vs:List V):Prop:=∀Q:List V->Hp->Prop,Q vs H->t σ H Q
theorem YA.nil:YA ck σ H []:=fun _ q=>q
theorem YA.cons{t:TA}{vs:List V}(h:aD te σ H v)(r:YA t σ H vs):YA (a_ te t) σ H (v::vs):=fun _ q=>h _ (r _ q)
theorem YA.one(h:aD te σ H v):YA (a_ te ck) σ H [v]:=.cons h .nil
theorem FY{t:TA}{xs:List V}(h:YA t σ H xs)(z:xs.length<=sizeLine)(q:∀p,H p=none->D.rt (.ref p) (aI H p (.tup xs))):ke (C9 t) D σ H:=h _ ⟨z,q⟩
theorem FV{t:TA}{xs:List V}(h:YA t σ H xs)(z:xs.length<=sizeLine)(q:∀p,H p=none->D.nx (σ.set i (some (.ref p))) (aI H p (.tup xs))):fV (C9 t) (bw i) D σ H:=h _ ⟨z,q⟩
theorem wb{t:TA}{xs:List V}(h:YA t σ H xs)(z:xs.length<=sizeLine)(q:∀p,H p=none->D.rt (.ref p) (aI H p (.lst xs))):ke (nP t) D σ H:=h _ ⟨z,q⟩
theorem E3{t:TA}{xs:List V}(h:YA t σ H xs)(z:xs.length<=sizeLine)(q:∀p,H p=none->D.nx (σ.set i (some (.ref p))) (aI H p (.lst xs))):fV (nP t) (bw i) D σ H:=h _ ⟨z,q⟩
theorem d9{t:TA}{vs:List V}{sp:Sp}{E:XK}(h:YA t σ H vs)(q:sp (vs++[]) H (fun v H1=>D.nx (σ.set i (some v)) H1) E):fV (fY sp [] E t) (bw i) D σ H:=h _ q
theorem wu{t:TA}{vs:List V}{sp:Sp}{E:XK}(h:YA t σ H vs)(q:sp (vs++[]) H D.rt E):ke (fY sp [] E t) D σ H:=h _ q
theorem kK{t:TA}{vs:List V}{sp:Sp}{E:XK}(h:YA t σ H vs)(q:sp (vs++[]) H (fun _ H1=>D.nx σ H1) E):ka (fY sp [] E t) D σ H:=h _ q
theorem j1{C:Addr}{m:Str}{t:TA}{ta:TE}{vs:List V}{sp:Sp}{E:XK}{a dx:Addr}{fs:List (Str×V)}(ha:aD ta σ H (.ref a))(e:H a=some (.ins C dx fs))(l:fs.lookup m=none)(h:YA t σ H vs)(q:sp (.ref a::(vs++[])) H (fun v H1=>D.nx (σ.set i (some v)) H1) E):fV (fx C m sp [] E ta t) (bw i) D σ H:=ha _ ⟨a,dx,fs,rfl,e,l,h _ q⟩
theorem qU{C:Addr}{m:Str}{t:TA}{ta:TE}{vs:List V}{sp:Sp}{E:XK}{a dx:Addr}{fs:List (Str×V)}(ha:aD ta σ H (.ref a))(e:H a=some (.ins C dx fs))(l:fs.lookup m=none)(h:YA t σ H vs)(q:sp (.ref a::(vs++[])) H D.rt E):ke (fx C m sp [] E ta t) D σ H:=ha _ ⟨a,dx,fs,rfl,e,l,h _ q⟩
theorem dy{C:Addr}{m:Str}{t:TA}{ta:TE}{vs:List V}{sp:Sp}{E:XK}{a dx:Addr}{fs:List (Str×V)}(ha:aD ta σ H (.ref a))(e:H a=some (.ins C dx fs))(l:fs.lookup m=none)(h:YA t σ H vs)(q:sp (.ref a::(vs++[])) H (fun _ H1=>D.nx σ H1) E):ka (fx C m sp [] E ta t) D σ H:=ha _ ⟨a,dx,fs,rfl,e,l,h _ q⟩
theorem qN{K:W.Frag}{ta:TE}{a C dx:Addr}{fs:List (Str×V)}{f:Str}(hv:aD te σ H v)(ha:aD ta σ H (.ref a))(e:H a=some (.ins C dx fs))(c:qH K C)(n:bF K C f)(l:fs.length<1000)(q:D.nx σ (aI H a (.ins C dx (cG f v fs)))):wG K ta te f D σ H:=hv _ (ha _ ⟨a,C,dx,fs,rfl,e,c,n,l,q⟩)
end
abbrev iN(n:Nat):V:=.int (n:Int)
theorem Dx(n:Nat):Builtin.bitNot (n:Int) = -((n:Int)+1):=by unfold Builtin.bitNot;omega
theorem Cn(a b:Nat):Builtin.bitAnd (a:Int) (b:Int)=((a&&&b:Nat):Int):=by unfold Builtin.bitAnd;rw[decide_eq_true (show(0:Int)<=a by omega),decide_eq_true (show(0:Int)<=b by omega)];rfl
theorem vJ(a b:Nat):Builtin.bitOr (a:Int) (b:Int)=((a|||b:Nat):Int):=by rw[Bits.bitOr_pp (by omega) (by omega)];rfl
theorem Hu(a b:Nat):Builtin.bitXor (a:Int) (b:Int)=((a^^^b:Nat):Int):=by rw[Bits.bitXor_pp (by omega) (by omega)];rfl
theorem GT(u:Nat):Builtin.bitAnd ((u:Int)+1) (Builtin.bitNot u)=(((u+1)-((u+1)&&&u):Nat):Int):=by
 unfold Builtin.bitAnd;rw[Dx,decide_eq_true (show(0:Int)<=(u:Int)+1 by omega),decide_eq_false (show ¬(0:Int) <= -((u:Int)+1) by omega)];show(u:Int)+1-((((u:Int)+1).toNat&&&(Builtin.bitNot (-((u:Int)+1))).toNat:Nat):Int)=_;have e1:((u:Int)+1).toNat=u+1:=by omega
 have e2:(Builtin.bitNot (-((u:Int)+1))).toNat=u:=by unfold Builtin.bitNot;omega
 rw[e1,e2];have:(u+1&&&u)<=u:=Nat.and_le_right;omega
theorem nz{n:Nat}:(((n:Int) !=0)=true)↔n≠0:=by rw[bne_iff_ne];omega
theorem cz{a b:Nat}{p:Bool}(h:a&&&b≠0↔p=true):(Builtin.bitAnd (a:Int) (b:Int) !=0)=p:=by rw[Cn];apply Bool.eq_iff_iff.mpr;rw[nz];exact h
def Kp(O:Addr->Prop)(H H':Hp):Prop:=∀b o,H b=some o->¬O b->H' b=some o
theorem HD{O:Addr->Prop}{H H':Hp}(s:aB H H'):Kp O H H':=fun b o e _=>s b o e
theorem aW{H:Hp}{p:Addr}{o:HO}(h:H p=none):aB H (aI H p o):=fun b u e=>by rw[ai (au e h)];exact e
theorem iZ{H H':Hp}(s:aB H H'){p:Addr}{o:HO}(h:H' p=none):aB H (aI H' p o):=s.trans (aW h)
structure Pa where
 obj:Addr
 dct:Addr
 rw:Addr
 ll:Addr
 rl:Addr
 rb:Addr
 ag:Addr
def Pa.row(p:Pa)(d:Bool):Addr:=if d then p.rl else p.ll
def sd(d:Bool):Int:=if d then 1 else 0
def pf (bit:Nat) (rw rb ag:Addr) (bn ins:Nat):List (Str×V):=[("bit",iN bit),("rows",.ref rw),("row_bits",.ref rb),("as_good",.ref ag),("birthday",iN bn),("inside",iN ins)]
section
variable{bit:Nat}{rw rb ag:Addr}{bn ins:Nat}
theorem wI:(pf bit rw rb ag bn ins).lookup ("bit":Str)=some (iN bit):=rfl
theorem ph:(pf bit rw rb ag bn ins).lookup ("rows":Str)=some (.ref rw):=rfl
theorem xE:(pf bit rw rb ag bn ins).lookup ("row_bits":Str)=some (.ref rb):=rfl
theorem iz:(pf bit rw rb ag bn ins).lookup ("as_good":Str)=some (.ref ag):=rfl
theorem kZ:(pf bit rw rb ag bn ins).lookup ("birthday":Str)=some (iN bn):=rfl
theorem AQ:(pf bit rw rb ag bn ins).lookup ("inside":Str)=some (iN ins):=rfl
end
def tf (most:Nat) (pl:Addr) (used opts:Nat) (sd:Addr):List (Str×V):=[("most_options",iN most),("parts",.ref pl),("used_bits",iN used),("options_in_all",iN opts),("sums",.ref sd)]
structure Tb where
 gs:List ae
 bit:ae->Nat
 pa:ae->Pa
 tb:Addr
 dx:Addr
 pl:Addr
 sd:Addr
 most:Nat
 kvs:List (dU×V)
def Tb.at(T:Tb)(x:ae):V:=.ref (T.pa x).obj
structure lI(CP:Addr)(H:Hp)(bit:ae->Nat)(pa:ae->Pa)(x:ae)(m1 m2:Nat):Prop where
 obj:H (pa x).obj=some (.ins CP (pa x).dct (pf (2^bit x) (pa x).rw (pa x).rb (pa x).ag (born x) (aT bit (ao x))))
 rw:H (pa x).rw=some (.tup [.ref (pa x).ll,.ref (pa x).rl])
 ll:H (pa x).ll=some (.lst (x.left.map fun y=>.ref (pa y).obj))
 rl:H (pa x).rl=some (.lst (x.right.map fun y=>.ref (pa y).obj))
 rb:H (pa x).rb=some (.tup [iN (aT bit x.left),iN (aT bit x.right)])
 ag:H (pa x).ag=some (.lst [iN m1,iN m2])
noncomputable def bB(p:Prop):Bool:=@decide p (Classical.propDecidable p)
theorem bu{p:Prop}:bB p=true↔p:=by unfold bB;exact @decide_eq_true_iff p (Classical.propDecidable p)
theorem i5{p:Prop}(h:p):bB p=true:=bu.mpr h
theorem n4{p:Prop}(h:¬p):bB p=false:=by
 cases e:bB p with
 |false=>rfl
 |true=>exact absurd (bu.mp e) h
theorem dk{α:Type}{l:List α}{p:α->Prop}{x:α}:x∈l.filter (fun y=>bB (p y))↔x∈l/\p x:=by rw[List.mem_filter,bu]
noncomputable def Tb.ge(T:Tb)(d:Bool)(x:ae):List ae:=T.gs.filter fun y=>bB (good d x y)
theorem bJ{T:Tb}{d:Bool}{x y:ae}:y∈T.ge d x↔y∈T.gs/\good d x y:=dk
def Tb.key(T:Tb)(x y:ae):dU:=.inl ((2^T.bit x|||2^T.bit y:Nat):Int)
structure bX(CP CT:Addr)(H:Hp)(T:Tb)(m:Bool->ae->Nat):Prop where
 ok:gm T.gs T.bit
 tab:H T.tb=some (.ins CT T.dx (tf T.most T.pl (aT T.bit T.gs) (optCount T.gs) T.sd))
 lst:H T.pl=some (.lst (T.gs.map T.at))
 sum:H T.sd=some (.dK T.kvs)
 sumK:∀kv∈T.kvs,∃x∈T.gs,∃y∈T.gs,∃z∈T.gs,kv=(T.key x y,T.at z)/\z=aq (bt x y)
 sumN:(T.kvs.map (·.1)).Nodup
 part:∀x∈T.gs,lI CP H T.bit T.pa x (m false x) (m true x)
 agi:∀x∈T.gs,∀y∈T.gs,(T.pa x).ag=(T.pa y).ag->x=y
 len:T.gs.length<=96
 opt:optCount T.gs<=T.most
noncomputable abbrev Tb.m(T:Tb):Bool->ae->Nat:=fun d x=>aT T.bit (T.ge d x)
abbrev bP(CP CT:Addr)(H:Hp)(T:Tb):Prop:=bX CP CT H T T.m
def tK(T:Tb)(b:Addr):Prop:=b=T.tb\/b=T.pl\/b=T.sd\/∃x∈T.gs,b=(T.pa x).ag
def cx(T:Tb)(b:Addr):Prop:=tK T b\/∃x∈T.gs,b=(T.pa x).obj\/b=(T.pa x).rw\/b=(T.pa x).ll\/b=(T.pa x).rl\/b=(T.pa x).rb
section
variable{CP CT:Addr}{H H':Hp}{T:Tb}{m:Bool->ae->Nat}
theorem lI.same{bit:ae->Nat}{pa:ae->Pa}{x:ae}{m1 m2:Nat}(p:lI CP H bit pa x m1 m2)(s:aB H H'):lI CP H' bit pa x m1 m2:=⟨s _ _ p.obj,s _ _ p.rw,s _ _ p.ll,s _ _ p.rl,s _ _ p.rb,s _ _ p.ag⟩
theorem bX.same(t:bX CP CT H T m)(s:aB H H'):bX CP CT H' T m:=⟨t.ok,s _ _ t.tab,s _ _ t.lst,s _ _ t.sum,t.sumK,t.sumN,fun x hx=>(t.part x hx).same s,t.agi,t.len,t.opt⟩
theorem bX.live(t:bX CP CT H T m){b:Addr}(h:tK T b):H b≠none:=by
 rcases h with rfl|rfl|rfl|⟨x,hx,rfl⟩
 ·rw[t.tab];exact Option.some_ne_none _
 ·rw[t.lst];exact Option.some_ne_none _
 ·rw[t.sum];exact Option.some_ne_none _
 ·rw[(t.part x hx).ag];exact Option.some_ne_none _
theorem bX.liveA(t:bX CP CT H T m){b:Addr}(h:cx T b):H b≠none:=by
 rcases h with h|⟨x,hx,rfl|rfl|rfl|rfl|rfl⟩
 ·exact t.live h
 ·rw[(t.part x hx).obj];exact Option.some_ne_none _
 ·rw[(t.part x hx).rw];exact Option.some_ne_none _
 ·rw[(t.part x hx).ll];exact Option.some_ne_none _
 ·rw[(t.part x hx).rl];exact Option.some_ne_none _
 ·rw[(t.part x hx).rb];exact Option.some_ne_none _
theorem bX.freshA(t:bX CP CT H T m){b:Addr}(h:H b=none):¬cx T b:=fun q=>t.liveA q h
theorem bX.apart(t:bX CP CT H T m){l:Addr}(n:¬cx T l)(k:∀b o,H b=some o->b≠l->H' b=some o):bX CP CT H' T m:=by have no:∀{b:Addr},cx T b->b≠l:=fun h e=>n (e▸h);refine⟨t.ok,k _ _ t.tab (no (.inl (.inl rfl))),k _ _ t.lst (no (.inl (.inr (.inl rfl)))),k _ _ t.sum (no (.inl (.inr (.inr (.inl rfl))))),t.sumK,t.sumN,fun x hx=>?_,t.agi,t.len,t.opt⟩;have p:=t.part x hx;exact⟨k _ _ p.obj (no (.inr ⟨x,hx,.inl rfl⟩)),k _ _ p.rw (no (.inr ⟨x,hx,.inr (.inl rfl)⟩)),k _ _ p.ll (no (.inr ⟨x,hx,.inr (.inr (.inl rfl))⟩)),k _ _ p.rl (no (.inr ⟨x,hx,.inr (.inr (.inr (.inl rfl)))⟩)),k _ _ p.rb (no (.inr ⟨x,hx,.inr (.inr (.inr (.inr rfl)))⟩)),k _ _ p.ag (no (.inl (.inr (.inr (.inr ⟨x,hx,rfl⟩)))))⟩
end
structure yD(N:ae->Prop)(T T':Tb):Prop where
 tb:T'.tb=T.tb
 most:T'.most=T.most
 sub:∀x∈T.gs,x∈T'.gs
 bit:∀x∈T.gs,T'.bit x=T.bit x
 pa:∀x∈T.gs,T'.pa x=T.pa x
 new:∀x∈T'.gs,x∈T.gs\/N x
 kv:∀k v,bQ T.kvs k=some v->bQ T'.kvs k=some v
theorem yD.refl{N:ae->Prop}(T:Tb):yD N T T:=⟨rfl,rfl,fun _ h=>h,fun _ _=>rfl,fun _ _=>rfl,fun _ h=>.inl h,fun _ _ h=>h⟩
theorem yD.trans{N M:ae->Prop}{T T1 T2:Tb}(a:yD N T T1)(b:yD M T1 T2):yD (fun x=>N x\/M x) T T2:=⟨b.tb.trans a.tb,b.most.trans a.most,fun x h=>b.sub x (a.sub x h),fun x h=>(b.bit x (a.sub x h)).trans (a.bit x h),fun x h=>(b.pa x (a.sub x h)).trans (a.pa x h),fun x h=>(b.new x h).elim (fun q=>(a.new x q).elim .inl fun n=>.inr (.inl n)) fun m=>.inr (.inr m),fun k v h=>b.kv k v (a.kv k v h)⟩
theorem yD.mono{N M:ae->Prop}{T T1:Tb}(a:yD N T T1)(h:∀x,N x->M x):yD M T T1:=⟨a.tb,a.most,a.sub,a.bit,a.pa,fun x hx=>(a.new x hx).imp id (h x),a.kv⟩
theorem yD.at{N:ae->Prop}{T T':Tb}(a:yD N T T'){x:ae}(h:x∈T.gs):T'.at x=T.at x:=by unfold Tb.at;rw[a.pa x h]
theorem yD.ats{N:ae->Prop}{T T':Tb}(a:yD N T T'){xs:List ae}(h:∀x∈xs,x∈T.gs):xs.map T'.at=xs.map T.at:=List.map_congr_left fun x hx=>a.at (h x hx)
structure o5(X:Addr->Prop)(CP CT:Addr)(N:ae->Prop)(T:Tb)(H:Hp)(T':Tb)(H':Hp):Prop where
 tab:bP CP CT H' T'
 ext:yD N T T'
 kp:Kp (tK T) H H'
 own:∀b,tK T' b->tK T b\/H b=none
 all:∀b,cx T' b->cx T b\/H b=none\/X b
 live:∀b,H' b=none->H b=none
abbrev jh:=o5 fun _=>False
section
variable{CP CT:Addr}{N M:ae->Prop}{T T1 T2:Tb}{H H1 H2:Hp}
theorem o5.refl(t:bP CP CT H T):jh CP CT N T H T H:=⟨t,.refl T,fun _ _ e _=>e,fun _ h=>.inl h,fun _ h=>.inl h,fun _ h=>h⟩
theorem o5.same(t:bP CP CT H T)(s:aB H H1):jh CP CT N T H T H1:=⟨t.same s,.refl T,HD s,fun _ h=>.inl h,fun _ h=>.inl h,fun _ h=>s.free h⟩
theorem o5.mono(a:jh CP CT N T H T1 H1)(h:∀x,N x->M x):jh CP CT M T H T1 H1:=⟨a.tab,a.ext.mono h,a.kp,a.own,a.all,a.live⟩
theorem o5.trans(a:jh CP CT N T H T1 H1)(b:jh CP CT N T1 H1 T2 H2):jh CP CT N T H T2 H2:=by
 refine⟨b.tab,(a.ext.trans b.ext).mono fun x h=>h.elim id id,fun c o e n=>?_,fun c h=>?_,fun c h=>?_,fun c h=>a.live c (b.live c h)⟩
 ·refine b.kp c o (a.kp c o e n) fun q=>?_;rcases a.own c q with q|q
  ·exact n q
  ·rw[q]at e;cases e
 ·rcases b.own c h with q|q
  ·exact a.own c q
  ·exact .inr (a.live c q)
 ·rcases b.all c h with q|q|q
  ·exact a.all c q
  ·exact .inr (.inl (a.live c q))
  ·exact q.elim
theorem o5.then(a:jh CP CT N T H T1 H1)(s:aB H1 H2):jh CP CT N T H T1 H2:=a.trans (.same a.tab s)
theorem o5.after(t:bP CP CT H T)(s:aB H H1)(b:jh CP CT N T H1 T2 H2):jh CP CT N T H T2 H2:=o5.trans (o5.same t s) b
theorem o5.own_all(a:jh CP CT N T H T1 H1){l:Addr}{o:HO}(e:H l=some o)(n:¬cx T l):H1 l=some o/\¬cx T1 l:=by
 refine⟨a.kp l o e fun h=>n (.inl h),fun q=>?_⟩;rcases a.all l q with q|q|q
 ·exact n q
 ·rw[q]at e;cases e
 ·exact q
theorem o5.write(a:jh CP CT N T H T1 H1){l:Addr}{o:HO}(e:H l=none)(n:¬cx T1 l):jh CP CT N T H T1 (aI H1 l o):=⟨a.tab.apart n fun b u e n=>by rw[ai n];exact e,a.ext,fun b u e' n'=>by rw[ai (au e' e)];exact a.kp b u e' n',a.own,a.all,fun b h=>by
  by_cases c:b=l
  ·rw[c,ah]at h;cases h
  ·rw[ai c]at h;exact a.live b h⟩
end
def sv(N:ae->Prop)(T:Tb):Prop:=∃h,N h/\h∉T.gs/\(∀d,∀x∈opt d h,x∈T.gs)/\bc h/\(96<=T.gs.length\/T.most<optCount T.gs+optC h)
theorem sv.mono{N M:ae->Prop}{T:Tb}(a:sv N T)(h:∀x,N x->M x):sv M T:=let⟨g,n,r⟩:=a;⟨g,h g n,r⟩
def nq(CP CT CN:Addr)(T:Tb)(H:Hp)(N:ae->Prop)(g:ae)(Q:VK)(E:XK):Prop:=(∀T' H',jh CP CT N T H T' H'->g∈T'.gs->Q (T'.at g) H')/\∀T' H',jh CP CT N T H T' H'->sv N T'->E (.ref CN) none H'
section
variable{X:Cx}{e o a b:Expr}{f:Str}{pos:Pos}{ta tb tl:TE}{tg l:Expr}
theorem fk(K:W.Frag)(he:PE X e ta)(hb:attributeBase e f X.env (eval e X.env)=eval e X.env:=by rfl)(hK:X.K=K:=by rfl):PE X (.Attribute e f pos) (dO K ta f):=by subst hK;exact fO he hb
theorem HR(K:W.Frag)(hK:X.K=K:=by rfl):GL X (kh K):=by subst hK;exact AI
theorem HW(K:W.Frag)(hK:X.K=K:=by rfl):GL X (vY K):=by subst hK;exact r9
theorem ba(K:W.Frag)(ha:PE X a ta)(hb:PE X b tb)(hs:wA b:=by intro _ _;rfl)(hK:X.K=K:=by rfl):PE X (.Subscript a b pos) (fB (kh K) ta tb):=rF (HR K hK) ha hb hs
theorem cu(K:W.Frag)(ha:PE X a ta)(hb:PE X b tb)(hs:wA b:=by intro _ _;rfl)(hK:X.K=K:=by rfl):PE X (.Subscript a b pos) (fB (vY K) ta tb):=rF (HW K hK) ha hb hs
theorem cY(K:W.Frag)(ha:PE X a ta)(he:∀whole,isTrue a X.env whole=(do let v <-whole;standAt a.pos;holding [v] (truthy v)):=by intro _;rfl)(hK:X.K=K:=by rfl):PT X a (fun σ H Q=>ta σ H fun x H'=>∃k,vh K x H' k/\Q k H'):=by subst hK;exact Cf ha he
theorem oK(K:W.Frag)(hl:PE X l tl)(hK:X.K=K:=by rfl):PI X tg l (kX K tl):=by subst hK;exact l6 hl
theorem gH (K:W.Frag) (hK:X.K=K:=by rfl):m7 X (.builtin "len") (fun xs H Q=>∃p ys,xs=[.ref p]/\(aV K H p ys\/i6 K H p ys)/\Q (.int ys.length) H):=by subst hK;exact jP
end
structure Cl where
 P:Addr
 T:Addr
 S:Addr
 R:Addr
 oP:Addr
 oR:Addr
 nG:Addr
 nR:Addr
def fw(mg:Str->Option Value)(x:Str)(i:Int):Prop:=∃u,mg x=some u/\br (.int i) u
def ET(K:W.Frag)(mg:Str->Option Value)(x:Str)(xs:List Int):Prop:=∃a,mg x=some (.ref a)/\∀H,i6 K H a (xs.map V.int)
structure dc(K:W.Frag)(mg:Str->Option Value)(c:Cl):Prop where
 clP:qH K c.P
 clT:qH K c.T
 clS:qH K c.S
 clR:qH K c.R
 bit:bF K c.P "bit"
 rows:bF K c.P "rows"
 row_bits:bF K c.P "row_bits"
 as_good:bF K c.P "as_good"
 birthday:bF K c.P "birthday"
 inside:bF K c.P "inside"
 most_options:bF K c.T "most_options"
 parts:bF K c.T "parts"
 used_bits:bF K c.T "used_bits"
 options_in_all:bF K c.T "options_in_all"
 sums:bF K c.T "sums"
 table:bF K c.S "table"
 forms:bF K c.S "forms"
 calls:bF K c.R "calls"
 place:bF K c.R "place"
 LEFT:fw mg "LEFT" 0
 RIGHT:fw mg "RIGHT" 1
 MOST_PARTS:fw mg "MOST_PARTS" 96
 MOST_OPTIONS:fw mg "MOST_OPTIONS" 1024
 FIRST_BYTE:fw mg "FIRST_BYTE" 71
 SLOTS:fw mg "SLOTS" 16
 SIDES:fw mg "SIDES" 2
 LONGEST_ROW:fw mg "LONGEST_ROW" 32
 MOST_HALVINGS:fw mg "MOST_HALVINGS" 62
 MOST_TIMES:fw mg "MOST_TIMES" 16
 SAME:fw mg "SAME" 0
 ABOVE:fw mg "ABOVE" 1
 BELOW:fw mg "BELOW" 2
 NEITHER:fw mg "NEITHER" 3
 NUMBER:fw mg "NUMBER" 0
 HEAP:fw mg "HEAP" 1
 MAKE:fw mg "MAKE" 2
 MINUS:fw mg "MINUS" 3
 SUM_OF:fw mg "SUM_OF" 4
 TIMES:fw mg "TIMES" 5
 OPTION:fw mg "OPTION" 6
 ORDER:fw mg "ORDER" 7
 SHAPE:fw mg "SHAPE" 8
 ROOM:fw mg "ROOM" 9
 WRITE:fw mg "WRITE" 10
 READ:fw mg "READ" 11
 NUMBERS_OF_CALLS:ET K mg "NUMBERS_OF_CALLS" [3,2,1,2,3,3,4,2,1,0,1,1]
 ROWS_OF_CALLS:ET K mg "ROWS_OF_CALLS" [0,0,2,0,0,0,0,0,0,0,0,1]
 len:mg "len"=none
 max:mg "max"=none
 reversed:mg "reversed"=none
 enumerate:mg "enumerate"=none
 sum:mg "sum"=none
 range:mg "range"=none
 abs:mg "abs"=none
 list:mg "list"=none
 all:mg "all"=none
 xoP:F6 K mg "OutOfPlace" c.oP
 xoR:F6 K mg "OutOfRange" c.oR
 xnG:F6 K mg "NoGame" c.nG
 xnR:F6 K mg "NoRoom" c.nR
 exm:∀a∈[c.oP,c.oR,c.nG,c.nR],∀b∈[c.oP,c.oR,c.nG,c.nR],W.exmOne K (.ref a) (.ref b)=some (decide (a=b))
theorem aL {X:Cx} {x:Str} {i:Int} {pos:Pos} (g:fw X.mg x i) (hg:Gl X x:=by rfl) (hd:(x==("__debug__":Str))=false:=by decide):PE X (.Name x pos) (tC (.int i)):=by obtain⟨u,h,r⟩:=g;exact AJ hg h r hd
section
variable{K:W.Frag}{mg:Str->Option Value}{c:Cl}{T:Tb}{σ:St}{H:Hp}{te ti:TE}{x:ae}{d:Bool}{m:Bool->ae->Nat}
theorem b_ (tx:dc K mg c) (t:bX c.P c.T H T m) (hx:x∈T.gs) (h:aD te σ H (T.at x)):aD (dO K te "bit") σ H (iN (2^T.bit x)):=.fld h (t.part x hx).obj tx.clP tx.bit wI
theorem sN (tx:dc K mg c) (t:bX c.P c.T H T m) (hx:x∈T.gs) (h:aD te σ H (T.at x)):aD (dO K te "inside") σ H (iN (aT T.bit (ao x))):=.fld h (t.part x hx).obj tx.clP tx.inside AQ
theorem r0 (tx:dc K mg c) (t:bX c.P c.T H T m) (hx:x∈T.gs) (h:aD te σ H (T.at x)):aD (dO K te "birthday") σ H (iN (born x)):=.fld h (t.part x hx).obj tx.clP tx.birthday kZ
theorem iQ (tx:dc K mg c) (t:bX c.P c.T H T m) (hx:x∈T.gs) (h:aD te σ H (T.at x)) (hi:aD ti σ H (.int (sd d))):aD (fB (vY K) (dO K te "rows") ti) σ H (.ref ((T.pa x).row d)):=.ixT (.fld h (t.part x hx).obj tx.clP tx.rows ph) hi (i6.of (t.part x hx).rw) (by cases d<;>rfl)
theorem jN (tx:dc K mg c) (t:bX c.P c.T H T m) (hx:x∈T.gs) (h:aD te σ H (T.at x)) (hi:aD ti σ H (.int (sd d))):aD (fB (vY K) (dO K te "row_bits") ti) σ H (iN (aT T.bit (opt d x))):=.ixT (.fld h (t.part x hx).obj tx.clP tx.row_bits xE) hi (i6.of (t.part x hx).rb) (by cases d<;>rfl)
theorem mD (tx:dc K mg c) (t:bX c.P c.T H T m) (hx:x∈T.gs) (h:aD te σ H (T.at x)) (hi:aD ti σ H (.int (sd d))):aD (fB (kh K) (dO K te "as_good") ti) σ H (iN (m d x)):=.ixL (.fld h (t.part x hx).obj tx.clP tx.as_good iz) hi (aV.of (t.part x hx).ag) (by cases d<;>rfl)
theorem fg(t:bX c.P c.T H T m)(hx:x∈T.gs):H ((T.pa x).row d)=some (.lst ((opt d x).map T.at)):=by
 cases d
 ·exact(t.part x hx).ll
 ·exact(t.part x hx).rl
theorem FW (tx:dc K mg c) (t:bX c.P c.T H T m) (h:aD te σ H (.ref T.tb)):aD (dO K te "most_options") σ H (iN T.most):=.fld h t.tab tx.clT tx.most_options rfl
theorem d7 (tx:dc K mg c) (t:bX c.P c.T H T m) (h:aD te σ H (.ref T.tb)):aD (dO K te "parts") σ H (.ref T.pl):=.fld h t.tab tx.clT tx.parts rfl
theorem zF (tx:dc K mg c) (t:bX c.P c.T H T m) (h:aD te σ H (.ref T.tb)):aD (dO K te "used_bits") σ H (iN (aT T.bit T.gs)):=.fld h t.tab tx.clT tx.used_bits rfl
theorem Cu (tx:dc K mg c) (t:bX c.P c.T H T m) (h:aD te σ H (.ref T.tb)):aD (dO K te "options_in_all") σ H (iN (optCount T.gs)):=.fld h t.tab tx.clT tx.options_in_all rfl
theorem rQ (tx:dc K mg c) (t:bX c.P c.T H T m) (h:aD te σ H (.ref T.tb)):aD (dO K te "sums") σ H (.ref T.sd):=.fld h t.tab tx.clT tx.sums rfl
end
theorem a7{α:Type}{l:List α}{i:Nat}{x:α}(h:l[i]?=some x):l.take (i+1)=l.take i++[x]:=by obtain⟨hi,rfl⟩:=List.getElem?_eq_some_iff.mp h;exact(List.take_append_getElem hi).symm
theorem rg{α β:Type}{f:α->β}{l:List α}{i:Nat}{y:β}(h:(l.map f)[i]?=some y):∃x,l[i]?=some x/\y=f x:=by rw[List.getElem?_map,Option.map_eq_some_iff]at h;obtain⟨x,a,b⟩:=h;exact⟨x,a,b.symm⟩
def zt(K:W.Frag)(c:Cl):Sp:=fun vs H Q _=>∃(l:Addr)(T:Tb)(m:Bool->ae->Nat)(xs:List ae),vs=[.ref l]/\bX c.P c.T H T m/\(∀x∈xs,x∈T.gs)/\aV K H l (xs.map T.at)/\Q (iN (aT T.bit xs)) H
def oE(K:W.Frag)(c:Cl):Sp:=fun vs H Q _=>∃(l:Addr)(T:Tb)(m:Bool->ae->Nat)(xs:List ae),vs=[.ref l]/\bX c.P c.T H T m/\(∀x∈xs,x∈T.gs)/\aV K H l (xs.map T.at)/\Q (iN (aT T.bit (xs.flatMap ao))) H
noncomputable def E_(x y:ae):Bool:=bB (le x y)
def yr(c:Cl):Sp:=fun vs H Q _=>∃(T:Tb)(x y:ae),vs=[T.at x,T.at y]/\bP c.P c.T H T/\x∈T.gs/\y∈T.gs/\Q (.bl (E_ x y)) H
section
variable{P:Program}{w:World}{K:W.Frag}{mg:Str->Option Value}{base:Heap}{c:Cl}
theorem zJ {f:Addr} {fd:FuncData} (F:dB K "bits_of" "bits_of" qa f fd) (tx:dc K mg c):bj P w K mg base (cH P w) 1 f fd ["parts"] (zt K c):=by
 refine F.ok0 mV (fun vs H Q E h=>?_) (fun cdv A outer s H vs Q E hr h=>?_)
 ·obtain⟨l,T,m,xs,rfl,_⟩:=h;rfl
 ·obtain⟨l,T,m,xs,rfl,t,hx,hl,q⟩:=h;refine⟨_,af (zm (i:=1) mV.nd rfl (Or.inl rfl) aA) (af (cg PassesOwn.never rfl (l6 (pv 0)) (jw (i:=2) mV.nd rfl (Or.inl rfl)) (ak (zp (i:=1) mV.nd rfl (Or.inl rfl) (fO (pv 2) rfl) ir))) (ak (aN (pv 1)))),?_⟩;refine⟨_,rfl,l,rfl,⟨_,hl⟩,tH (K:=K) (a:=l) (xs:=xs.map T.at) (fun i σ H'=>∃v,σ=[some (.ref l),some (iN (aT T.bit (xs.take i))),v]/\H'=H) ⟨none,rfl,rfl⟩ (fun i σ H' _⟨_,_,e⟩=>by rw[e];exact hl) ?_ ?_⟩
  ·rintro i y σ H' hi ⟨v,rfl,rfl⟩;obtain⟨x,hxi,rfl⟩:=rg hi;refine⟨_,rfl,b_ tx t (hx x (List.mem_of_getElem? hxi)) yv _ ⟨_,_,rfl,rfl,?_⟩⟩;refine⟨some (T.at x),?_,rfl⟩;dsimp only;rw[vJ,lT,a7 hxi];rfl
  ·rintro σ H' ⟨v,rfl,rfl⟩;rw[List.length_map,List.take_length];exact⟨_,rfl,q⟩
theorem u7 {f:Addr} {fd:FuncData} (F:dB K "inside_of" "inside_of" kM f fd) (tx:dc K mg c):bj P w K mg base (cH P w) 1 f fd ["parts"] (oE K c):=by
 refine F.ok0 iK (fun vs H Q E h=>?_) (fun cdv A outer s H vs Q E hr h=>?_)
 ·obtain⟨l,T,m,xs,rfl,_⟩:=h;rfl
 ·obtain⟨l,T,m,xs,rfl,t,hx,hl,q⟩:=h;refine⟨_,af (zm (i:=1) iK.nd rfl (Or.inl rfl) aA) (af (cg PassesOwn.never rfl (l6 (pv 0)) (jw (i:=2) iK.nd rfl (Or.inl rfl)) (ak (zp (i:=1) iK.nd rfl (Or.inl rfl) (fO (pv 2) rfl) ir))) (ak (aN (pv 1)))),?_⟩;refine⟨_,rfl,l,rfl,⟨_,hl⟩,tH (K:=K) (a:=l) (xs:=xs.map T.at) (fun i σ H'=>∃v,σ=[some (.ref l),some (iN (aT T.bit ((xs.take i).flatMap ao))),v]/\H'=H) ⟨none,rfl,rfl⟩ (fun i σ H' _⟨_,_,e⟩=>by rw[e];exact hl) ?_ ?_⟩
  ·rintro i y σ H' hi ⟨v,rfl,rfl⟩;obtain⟨x,hxi,rfl⟩:=rg hi;refine⟨_,rfl,sN tx t (hx x (List.mem_of_getElem? hxi)) yv _ ⟨_,_,rfl,rfl,?_⟩⟩;refine⟨some (T.at x),?_,rfl⟩;dsimp only;rw[vJ,fI,a7 hxi,List.flatMap_append,List.flatMap_singleton];rfl
  ·rintro σ H' ⟨v,rfl,rfl⟩;rw[List.length_map,List.take_length];exact⟨_,rfl,q⟩
theorem tM {f:Addr} {fd:FuncData} (F:dB K "is_at_most" "is_at_most" jK f fd) (tx:dc K mg c):bj P w K mg base (cH P w) 1 f fd ["x","y"] (yr c):=by
 refine F.ok0 vS (fun vs H Q E h=>?_) (fun cdv A outer s H vs Q E hr h=>?_)
 ·obtain⟨T,x,y,rfl,_⟩:=h;rfl
 ·obtain⟨T,x,y,rfl,t,hx,hy,q⟩:=h;refine⟨_,ak (aN (vN Cz (aO di (rF AI (fO (pv 0) rfl) (aL tx.LEFT) (fun _ _=>rfl)) (fO (pv 1) rfl)) aA (aX _))),?_⟩;refine aD.ne (aD.i0 (mD (d:=false) tx t hx yv .c) (b_ tx t hy yv)) .c _ ?_;have e:(!decide (Builtin.bitAnd ((aT T.bit (T.ge false x):Nat):Int) ((2^T.bit y:Nat):Int)=0))=E_ x y:=by have m:=zq t.ok.inj hy (m:=T.ge false x) (fun z hz=>(bJ.mp hz).1);rw[bJ]at m;have q:=cz (p:=E_ x y) (m.trans ⟨fun h=>i5 h.2,fun h=>⟨hy,bu.mp h⟩⟩);rw[<-q];rfl
  rw[e];exact q
end
def BM(t:TE)(σ:St)(H:Hp)(v:V):Prop:=∀Q:VK,(∀H',aB H H'->Q v H')->t σ H Q
def n_(t:TT)(σ:St)(H:Hp)(b:Bool):Prop:=∀Q:Bool->Hp->Prop,(∀H',aB H H'->Q b H')->t σ H Q
theorem aD.s{t:TE}{σ:St}{H:Hp}{v:V}(h:aD t σ H v):BM t σ H v:=fun Q q=>h Q (q H (aB.refl H))
theorem Yt.s{t:TT}{σ:St}{H:Hp}{b:Bool}(h:Yt t σ H b):n_ t σ H b:=fun Q q=>h Q (q H (aB.refl H))
theorem n_.yes{σ:St}{H:Hp}:n_ DX σ H true:=fun Q q=>q H (aB.refl H)
theorem sA{σ:St}{i:Nat}{v:Option V}:b8 ((b8 σ [i]).set i v) [i]=b8 σ [i]:=by show((σ.set i none).set i v).set i none=σ.set i none;rw[List.set_set,List.set_set]
theorem sC{n m:Nat}(h:n<=m)(hm:m<=sizeLine):n<=sizeLine:=Nat.le_trans h hm
section
variable{α:Type}{K:W.Frag}{tl:TE}{tt:TT}{te:TE}{i:Nat}{σ:St}{H:Hp}{Q:VK}{a:Addr}{xs:List α}{f e:α->V}{p:α->Bool}
theorem jk(hi:aD tl σ H (.ref a))(hl:aV K H a (xs.map f))(hz:xs.length<=sizeLine) (ht:∀x∈xs,∀H',aB H H'->n_ tt ((b8 σ [i]).set i (some (f x))) H' (p x)) (he:∀x∈xs,p x=true->∀H',aB H H'->BM te ((b8 σ [i]).set i (some (f x))) H' (e x)) (hd:∀D H',H D=none->aB H H'->H' D=some (.lst ((xs.filter p).map e))->Q (.ref D) H'):Ah (kX K tl) (bw i) tt te [i] σ H Q:=by
 refine hi _ ⟨a,rfl,⟨_,hl⟩,fun D hD=>?_⟩;refine Eo (K:=K) (a:=a) (xs:=xs.map f) (Qd:=fun H'=>Q (.ref D) H') (fun j H'=>aB H H'/\H' D=some (.lst (((xs.take j).filter p).map e))) ⟨aW hD,ah⟩ (fun j H' _ h=>h.1.seq hl) ?_ ?_
 ·rintro j y H' hj ⟨s,hDl⟩;obtain⟨x,hx,rfl⟩:=rg hj;have mx:=List.mem_of_getElem? hx;have hj':=(List.getElem?_eq_some_iff.mp hx).1;refine⟨sA,ht x mx H' s _ fun H2 s2=>?_⟩;cases hp:p x with
  |true=>
   rw[if_pos rfl];refine he x mx hp H2 (s.trans s2) _ fun H3 s3=>⟨_,s3 _ _ (s2 _ _ hDl),?_,?_,?_⟩
   ·rw[List.length_map];have:=List.length_filter_le p (xs.take j);rw[List.length_take]at this;omega
   ·intro b o eb;rw[ai (au eb hD)];exact s3 _ _ (s2 _ _ (s _ _ eb))
   ·rw[ah,a7 hx,List.filter_append,List.map_append,List.filter_cons,if_pos hp];rfl
  |false=>rw[if_neg (by decide)];refine⟨s.trans s2,?_⟩;rw[a7 hx,List.filter_append,List.filter_cons,if_neg (by rw[hp];decide),List.filter_nil,List.append_nil];exact s2 _ _ hDl
 ·rintro H' ⟨s,hDl⟩;rw[List.length_map,List.take_length]at hDl;exact hd D H' hD s hDl
end
theorem kd{α:Type}{K:W.Frag}{tl:TE}{tt:TT}{te:TE}{i j:Nat}{σ:St}{H:Hp}{D:bN}{a:Addr}{xs:List α}{f e:α->V}{p:α->Bool}(hi:aD tl σ H (.ref a))(hl:aV K H a (xs.map f))(hz:xs.length<=sizeLine) (ht:∀x∈xs,∀H',aB H H'->n_ tt ((b8 σ [i]).set i (some (f x))) H' (p x)) (he:∀x∈xs,p x=true->∀H',aB H H'->BM te ((b8 σ [i]).set i (some (f x))) H' (e x)) (hd:∀d H',H d=none->aB H H'->H' d=some (.lst ((xs.filter p).map e))->D.nx (σ.set j (some (.ref d))) H'):fV (Ah (kX K tl) (bw i) tt te [i]) (bw j) D σ H:=jk hi hl hz ht he hd
theorem Ey{α:Type}{K:W.Frag}{tl:TE}{tt:TT}{te:TE}{i:Nat}{σ:St}{H:Hp}{D:bN}{a:Addr}{xs:List α}{f e:α->V}{p:α->Bool}(hi:aD tl σ H (.ref a))(hl:aV K H a (xs.map f))(hz:xs.length<=sizeLine) (ht:∀x∈xs,∀H',aB H H'->n_ tt ((b8 σ [i]).set i (some (f x))) H' (p x)) (he:∀x∈xs,p x=true->∀H',aB H H'->BM te ((b8 σ [i]).set i (some (f x))) H' (e x)) (hd:∀d H',H d=none->aB H H'->H' d=some (.lst ((xs.filter p).map e))->D.rt (.ref d) H'):ke (Ah (kX K tl) (bw i) tt te [i]) D σ H:=jk hi hl hz ht he hd
theorem bH{α:Type}(l:List α):l.filter (fun _=>true)=l:=by rw[List.filter_eq_self];intro _ _;rfl
theorem mq{CP CT:Addr}{H:Hp}{T:Tb}{m:Bool->ae->Nat}(t:bX CP CT H T m):T.gs.length<=sizeLine:=Nat.le_trans t.len (by decide)
noncomputable def Tb.partsIn(T:Tb)(x:ae):List ae:=T.gs.filter fun y=>bB (y∈ao x)
theorem b6{CP CT:Addr}{H:Hp}{T:Tb}(t:bP CP CT H T){x y:ae}(hx:x∈T.gs):y∈T.partsIn x↔az y x:=by unfold Tb.partsIn;rw[dk,aP];exact⟨fun h=>h.2,fun h=>⟨t.ok.part hx h,h⟩⟩
def l9(c:Cl):Sp:=fun vs H Q _=>∃(T:Tb)(x:ae),vs=[.ref T.tb,T.at x]/\bP c.P c.T H T/\x∈T.gs/\∀l H',H l=none->aB H H'->H' l=some (.lst ((T.partsIn x).map T.at))->Q (.ref l) H'
def C5(c:Cl):Sp:=fun vs H Q _=>∃(T:Tb),vs=[.ref T.tb]/\bP c.P c.T H T/\∀i,(∀x∈T.gs,T.bit x≠i)->Q (iN (2^i)) H
def EE(c:Cl):Sp:=fun vs H Q _=>∃(T:Tb)(m:Bool->ae->Nat)(a dx rw rb ag ll rl dp:Addr)(b bn ins:Nat)(ls rs:List ae)(kvs:List (dU×V)),vs=[.ref a,.ref dp]/\bX c.P c.T H T m/\H a=some (.ins c.P dx (pf b rw rb ag bn ins))/\H rw=some (.tup [.ref ll,.ref rl])/\H ll=some (.lst (ls.map T.at))/\H rl=some (.lst (rs.map T.at))/\(∀x∈ls,x∈T.gs)/\(∀x∈rs,x∈T.gs)/\ls.length<=sizeLine/\rs.length<=sizeLine/\H dp=some (.dK kvs)/\(∀x∈T.gs,bQ kvs (.inl ((2^T.bit x:Nat):Int))=some (iN (plc T.gs x)))/\∀t l r H',H t=none->aB H H'->H' t=some (.tup [iN bn,.ref l,.ref r])->H' l=some (.lst ((dz T.gs ls).map V.int))->H' r=some (.lst ((dz T.gs rs).map V.int))->Q (.ref t) H'
section
variable{P:Program}{w:World}{K:W.Frag}{mg:Str->Option Value}{base:Heap}{c:Cl}
theorem yf {f:Addr} {fd:FuncData} (F:dB K "parts_of" "Table.parts_of" fL f fd) (tx:dc K mg c):bj P w K mg base (cH P w) 1 f fd ["self","game"] (l9 c):=by
 refine F.ok0 fz (fun vs H Q E h=>?_) (fun cdv A outer s H vs Q E hr h=>?_)
 ·obtain⟨T,x,rfl,_⟩:=h;rfl
 ·obtain⟨T,x,rfl,t,hx,q⟩:=h;refine⟨_,ak (aN (sO (own:=[("part",2)]) rfl fz.nd (l6 (fO (pv 0) rfl)) (bD rfl) (fun _ _ _ _ _=>jw (i:=2) fz.nd rfl (Or.inl rfl)) (fun _ _ _ _ _=>l_ (cY K (aO di (fk K (pv 2)) (fk K (pv 1))))) (fun _ _ _ _ _=>pv 2))),?_⟩;refine Ey (xs:=T.gs) (f:=T.at) (e:=T.at) (p:=fun y=>bB (y∈ao x)) (d7 tx t yv) (aV.of t.lst) (mq t) (fun y hy H' s=>?_) (fun y hy _ H' s=>aD.s yv) (fun D H' hD s e=>q D H' hD s e);have hb:=cz (p:=bB (y∈ao x)) ((dh t.ok.inj hy fun z hz=>t.ok.part hx (aP.mp hz)).trans bu.symm);rw[<-hb];exact(Yt.n (aD.i0 (b_ tx (t.same s) hy yv) (sN tx (t.same s) hx yv))).s
theorem xy {f:Addr} {fd:FuncData} (F:dB K "free_bit" "Table.free_bit" fC f fd) (tx:dc K mg c):bj P w K mg base (cH P w) 1 f fd ["self"] (C5 c):=by
 refine F.ok0 pN (fun vs H Q E h=>?_) (fun cdv A outer s H vs Q E hr h=>?_)
 ·obtain⟨T,rfl,_⟩:=h;rfl
 ·obtain⟨T,rfl,t,q⟩:=h;refine⟨_,ak (aN (aO di (aO gv (fO (pv 0) rfl) aA) (EH FZ (fO (pv 0) rfl)))),?_⟩;refine iG (aD.i0 (aD.i0 (zF tx t yv) .c) (aD.u (zF tx t yv))) ?_;obtain⟨i,e1,e2⟩:=xa (aT T.bit T.gs);rw[GT,e1];refine q i fun x hx e=>?_;have:=(eX (bit:=T.bit) (i:=i) (l:=T.gs)).mpr ⟨x,hx,e⟩;rw[e2]at this;cases this
theorem v_ {f:Addr} {fd:FuncData} (F:dB K "order_key" "order_key" lJ f fd) (tx:dc K mg c):bj P w K mg base (cH P w) 1 f fd ["part","places"] (EE c):=by
 refine F.ok0 fW (fun vs H Q E h=>?_) (fun cdv A outer s H vs Q E hr h=>?_)
 ·obtain⟨T,m,a,dx,rw,rb,ag,ll,rl,dp,b,bn,ins,ls,rs,kvs,rfl,_⟩:=h;rfl
 ·obtain⟨T,m,a,dx,rw,rb,ag,ll,rl,dp,b,bn,ins,ls,rs,kvs,rfl,t,ha,hrw,hll,hrl,h1,h2,z1,z2,hdp,hk,q⟩:=h;have hu:=nj hr;refine⟨_,af (cy (i:=2) (own:=[("option",4)]) rfl fW.nd rfl rfl (dr rfl rfl rfl rfl) (l6 (rF r9 (fO (pv 0) rfl) (aL tx.LEFT) (fun _ _=>rfl))) (bD rfl) (fun _ _ _ _ _=>jw (i:=4) fW.nd rfl (Or.inl rfl)) (fun _ _ _ _ _=>c_) (fun _ _ _ _ _=>d6 hu (pv 1) (fk K (pv 4)) (fun _ _=>rfl))) (af (cy (i:=3) (own:=[("option",4)]) rfl fW.nd rfl rfl (dr rfl rfl rfl rfl) (l6 (rF r9 (fO (pv 0) rfl) (aL tx.RIGHT) (fun _ _=>rfl))) (bD rfl) (fun _ _ _ _ _=>jw (i:=4) fW.nd rfl (Or.inl rfl)) (fun _ _ _ _ _=>c_) (fun _ _ _ _ _=>d6 hu (pv 1) (fk K (pv 4)) (fun _ _=>rfl))) (ak (aN (r8 (aa (fO (pv 0) rfl) (aa (pv 2) (aa (pv 3) aj))))))),?_⟩;refine sq (kd (xs:=ls) (f:=T.at) (e:=fun y=>iN (plc T.gs y)) (p:=fun _=>true) (.ixT (.fld yv ha tx.clP tx.rows ph) .c (i6.of hrw) rfl) (aV.of hll) z1 (fun y hy H' s=>n_.yes) (fun y hy _ H' s=>(aD.dget yv (b_ tx (t.same s) (h1 y hy) yv) (by rw[<-hk y (h1 y hy)];exact gq.k (k:=Sum.inl ((2^T.bit y:Nat):Int)) (s _ _ hdp))).s) (fun l1 H1 hl1 s1 e1=>?_));refine sq (kd (xs:=rs) (f:=T.at) (e:=fun y=>iN (plc T.gs y)) (p:=fun _=>true) (.ixT (.fld yv (s1 _ _ ha) tx.clP tx.rows ph) .c (i6.of (s1 _ _ hrw)) rfl) (aV.of (s1 _ _ hrl)) z2 (fun y hy H' s=>n_.yes) (fun y hy _ H' s=>(aD.dget yv (b_ tx (t.same (s1.trans s)) (h2 y hy) yv) (by rw[<-hk y (h2 y hy)];exact gq.k (k:=Sum.inl ((2^T.bit y:Nat):Int)) (s _ _ (s1 _ _ hdp)))).s) (fun l2 H2 hl2 s2 e2=>?_));have s3:aB H H2:=s1.trans s2;refine FY (.cons (aD.fld yv (s3 _ _ ha) tx.clP tx.birthday kZ) (.cons yv (.cons yv .nil))) (by show 3<=sizeLine;decide) fun tt htt=>?_;rw[bH]at e1 e2;refine q tt l1 l2 _ (s3.free htt) (iZ s3 htt) ah ?_ ?_
  ·rw[ai (au (s2 _ _ e1) htt),s2 _ _ e1];unfold dz;rw[List.map_map];rfl
  ·rw[ai (au e2 htt),e2];unfold dz;rw[List.map_map];rfl
end
theorem AS:bootBuiltins "max"=some (.builtin "max"):=by decide +kernel
theorem uC:bootBuiltins "sum"=some (.builtin "sum"):=by decide +kernel
theorem BF:bootBuiltins "all"=some (.builtin "all"):=by decide +kernel
theorem mv:bootBuiltins "abs"=some (.builtin "abs"):=by decide +kernel
section
variable{α:Type}{K:W.Frag}{σ:St}{H:Hp}{D:bN}{g:TG}{tb:TS}{a:Addr}{xs:List α}{f:α->V}{tl:TE}
theorem Ao(Pv:Nat->St->Hp->Prop)(hl0:aV K H a (xs.map f))(h0:Pv 0 σ H)(hl:∀i σ H,i<=xs.length->Pv i σ H->aV K H a (xs.map f)) (hs:∀i x σ H,xs[i]?=some x->Pv i σ H->g (f x) σ H fun σ2 H2=>tb { D with nx:=Pv (i+1),ct:=Pv (i+1),bk:=D.nx } σ2 H2) (hd:∀σ H,Pv xs.length σ H->D.nx σ H) :∃b,V.ref a=V.ref b/\(∃ys,aV K H b ys)/\∃W:Nat->Nat->St->Hp->Prop,(∃m,W 0 m σ H)/\∀i m σ H,W i m σ H->((z6 K b).stop i H/\D.nx σ H)\/((z6 K b).go i H/\∃N:St->Hp->Prop,(∀σ' H',N σ' H'->∃m',m'<m/\W (i+1) m' σ' H')/\∀x H',(z6 K b).yld i H x H'->g x σ H' fun σ2 H2=>tb { D with nx:=N,ct:=N,bk:=D.nx } σ2 H2):=by refine⟨a,rfl,⟨_,hl0⟩,tH (xs:=xs.map f) Pv h0 (fun i σ H h p=>hl i σ H (by rw[List.length_map]at h;exact h) p) (fun i y σ H hi p=>?_) (fun σ H p=>hd σ H (by rw[List.length_map]at p;exact p))⟩;obtain⟨x,hx,rfl⟩:=rg hi;exact hs i x σ H hx p
theorem t7(hi:aD tl σ H (.ref a))(Pv:Nat->St->Hp->Prop)(hl0:aV K H a (xs.map f))(h0:Pv 0 σ H)(hl:∀i σ H,i<=xs.length->Pv i σ H->aV K H a (xs.map f)) (hs:∀i x σ H,xs[i]?=some x->Pv i σ H->g (f x) σ H fun σ2 H2=>tb { D with nx:=Pv (i+1),ct:=Pv (i+1),bk:=D.nx } σ2 H2) (hd:∀σ H,Pv xs.length σ H->D.nx σ H):vb (kX K tl) g tb D σ H:=hi _ (Ao Pv hl0 h0 hl hs hd)
theorem CQ{ta tc:TE}{p q:Addr}{ys zs:List α}(ha:aD ta σ H (.ref p))(hb:aD tc σ H (.ref q))(e1:H p=some (.lst (ys.map f)))(e2:H q=some (.lst (zs.map f)))(z:ys.length+zs.length<=sizeLine)(Pv:Addr->Nat->St->Hp->Prop) (h0:∀a,H a=none->Pv a 0 σ (aI H a (.lst ((ys++zs).map f)))) (hl:∀a i σ H,Pv a i σ H->H a=some (.lst ((ys++zs).map f))) (hs:∀a i x σ H,(ys++zs)[i]?=some x->Pv a i σ H->g (f x) σ H fun σ2 H2=>tb { D with nx:=Pv a (i+1),ct:=Pv a (i+1),bk:=D.nx } σ2 H2) (hd:∀a σ H,Pv a (ys++zs).length σ H->D.nx σ H):vb (kX K (fB t_ ta tc)) g tb D σ H:=by refine ha _ (hb _ ⟨p,q,_,_,rfl,rfl,e1,e2,by rw[List.length_map,List.length_map];exact z,fun l hl0=>?_⟩);rw[<-List.map_append];exact Ao (Pv l) (aV.of ah) (h0 l hl0) (fun i σ H _ h=>aV.of (hl l i σ H h)) (hs l) (hd l)
theorem FT{ta:TA}(hi:YA ta σ H [.ref a])(Pv:Nat->St->Hp->Prop)(hl0:aV K H a (xs.map f))(h0:Pv 0 σ H)(hl:∀i σ H,i<=xs.length->Pv i σ H->aV K H a (xs.map f)) (hs:∀i x σ H,i<xs.length->xs[xs.length-1-i]?=some x->Pv i σ H->g (f x) σ H fun σ2 H2=>tb { D with nx:=Pv (i+1),ct:=Pv (i+1),bk:=D.nx } σ2 H2) (hd:∀σ H,Pv xs.length σ H->D.nx σ H):vb (Ge K ta) g tb D σ H:=by
 refine hi _ ⟨a,_,rfl,hl0,fun i m σ H=>Pv i σ H/\m=xs.length-i/\i<=xs.length,⟨_,h0,rfl,Nat.zero_le _⟩,fun i m σ H⟨p,em,hle⟩=>?_⟩;rw[List.length_map];by_cases c:i<xs.length
 ·right;have hz:xs.length-1-i<xs.length:=by omega
  obtain⟨x,hx⟩:∃x,xs[xs.length-1-i]?=some x:=⟨_,List.getElem?_eq_getElem hz⟩
  have hm:(xs.map f)[xs.length-1-i]?=some (f x):=by rw[List.getElem?_map,hx];rfl
  refine⟨⟨c,_,_,hl i σ H hle p,hm⟩,Pv (i+1),fun σ' H' q=>⟨m-1,by omega,q,by omega,by omega⟩,?_⟩;rintro y H' ⟨rfl,hy⟩;have:=hy _ (hl i σ H' hle p);rw[hm]at this;cases this;exact hs i x σ H' c hx p
 ·left;have:i=xs.length:=by omega
  subst this;exact⟨Nat.le_refl _,hd σ H p⟩
end
theorem aD.call{sp:Sp}{E:XK}{t:TA}{σ:St}{H:Hp}{vs:List V}{v:V}(h:YA t σ H vs)(q:∀Q:VK,Q v H->sp (vs++[]) H Q E):aD (fY sp [] E t) σ H v:=fun Q r=>h _ (q Q r)
theorem aD.meth{C:Addr}{m:Str}{sp:Sp}{E:XK}{t:TA}{ta:TE}{σ:St}{H:Hp}{vs:List V}{v:V}{a dx:Addr}{fs:List (Str×V)}(ha:aD ta σ H (.ref a))(e:H a=some (.ins C dx fs))(l:fs.lookup m=none)(h:YA t σ H vs)(q:∀Q:VK,Q v H->sp (.ref a::(vs++[])) H Q E):aD (fx C m sp [] E ta t) σ H v:=fun Q r=>ha _ ⟨a,dx,fs,rfl,e,l,h _ (q Q r)⟩
theorem FN{K:W.Frag}{t:TA}{ta:TE}{σ:St}{H:Hp}{D:bN}{xs:List V}{a C dx:Addr}{fs:List (Str×V)}{f:Str}(h:YA t σ H xs)(z:xs.length<=sizeLine)(ha:∀p,H p=none->aD ta σ (aI H p (.tup xs)) (.ref a))(e:H a=some (.ins C dx fs))(c:qH K C)(n:bF K C f)(l:fs.length<1000) (q:∀p,H p=none->D.nx σ (aI (aI H p (.tup xs)) a (.ins C dx (cG f (.ref p) fs)))):wG K ta (C9 t) f D σ H:=h _ ⟨z,fun p hp=>ha p hp _ ⟨a,C,dx,fs,rfl,by rw[ai (au e hp)];exact e,c,n,l,q p hp⟩⟩
theorem B4{K:W.Frag}{t:TA}{ta:TE}{σ:St}{H:Hp}{D:bN}{xs:List V}{a C dx:Addr}{fs:List (Str×V)}{f:Str}(h:YA t σ H xs)(z:xs.length<=sizeLine)(ha:∀p,H p=none->aD ta σ (aI H p (.lst xs)) (.ref a))(e:H a=some (.ins C dx fs))(c:qH K C)(n:bF K C f)(l:fs.length<1000) (q:∀p,H p=none->D.nx σ (aI (aI H p (.lst xs)) a (.ins C dx (cG f (.ref p) fs)))):wG K ta (nP t) f D σ H:=h _ ⟨z,fun p hp=>ha p hp _ ⟨a,C,dx,fs,rfl,by rw[ai (au e hp)];exact e,c,n,l,q p hp⟩⟩
theorem wq{K:W.Frag}{ta tv:TE}{g:Int->Int->V}{σ:St}{H:Hp}{D:bN}{a C dx:Addr}{fs:List (Str×V)}{f:Str}{x y:Int}(ha:aD ta σ H (.ref a))(hv:aD tv σ H (.int y))(e:H a=some (.ins C dx fs))(c:qH K C)(n:bF K C f)(l:fs.lookup f=some (.int x))(z:fs.length<1000) (q:D.nx σ (aI H a (.ins C dx (cG f (g x y) fs)))):Af K ta tv (n9 g) f D σ H:=ha _ ⟨a,C,dx,fs,_,rfl,e,c,n,l,hv _ ⟨x,y,rfl,rfl,dx,fs,e,z,q⟩⟩
theorem aD.mx{ta tb:TE}{σ:St}{H:Hp}{a b:Nat}(ha:aD ta σ H (iN a))(hb:aD tb σ H (iN b)):aD (Ab (fun xs H Q=>∃i j,xs=[.int i,.int j]/\Q (.int (if j>i then j else i)) H) (a_ ta (a_ tb ck))) σ H (iN (max a b)):=fun Q q=>ha _ (hb _ ⟨_,_,rfl,by
  have:(if(b:Int)>(a:Int)then(b:Int)else(a:Int))=((max a b:Nat):Int):=by split<;>omega
  rw[this];exact q⟩)
theorem pR:∀(l:List ae)(m:Nat),bL m l=max m (bL 0 l)
 |[],m=>by simp[bL]
 |x::l,m=>by rw[bL,bL,pR l,pR l (max 0 (born x+1))];omega
theorem sy:∀(l:List ae)(m:Nat)(x:ae),bL m (l++[x])=max (bL m l) (born x+1)
 |[],m,x=>by simp[bL]
 |y::l,m,x=>by rw[List.cons_append,bL,bL,sy l]
theorem uo:∀(l r:List ae)(m:Nat),bL m (l++r)=max (bL m l) (bL 0 r)
 |[],r,m=>by rw[List.nil_append,pR,bL]
 |y::l,r,m=>by rw[List.cons_append,bL,bL,uo l]
theorem Cs(l r:List ae):bL 0 (l++r)=born (.mk l r):=by rw[uo,born]
theorem bX.off{CP CT:Addr}{H H':Hp}{T:Tb}{m:Bool->ae->Nat}{a C dx:Addr}(t:bX CP CT H T m)(ha:H a=some (.ins C dx []))(k:∀b o,H b=some o->b≠a->H' b=some o):bX CP CT H' T m:=by
 refine⟨t.ok,k _ _ t.tab (cv t.tab ha ?_),k _ _ t.lst (cv t.lst ha ?_),k _ _ t.sum (cv t.sum ha ?_),t.sumK,t.sumN,fun x hx=>?_,t.agi,t.len,t.opt⟩
 ·intro h;injection h with _ _ h;cases h
 ·intro h;cases h
 ·intro h;cases h
 ·have p:=t.part x hx;refine⟨k _ _ p.obj (cv p.obj ha ?_),k _ _ p.rw (cv p.rw ha ?_),k _ _ p.ll (cv p.ll ha ?_),k _ _ p.rl (cv p.rl ha ?_),k _ _ p.rb (cv p.rb ha ?_),k _ _ p.ag (cv p.ag ha ?_)⟩
  ·intro h;injection h with _ _ h;cases h
  all_goals (intro h;cases h)
theorem DZ {b:Nat} {rw rb ag:Addr}:cG "inside" (iN b) (cG "birthday" (.int 0) (cG "as_good" (.ref ag) (cG "row_bits" (.ref rb) (cG "rows" (.ref rw) (cG "bit" (iN b) [])))))=pf b rw rb ag 0 b:=by have e:(V.int 0)=iN 0:=rfl;rw[e];unfold pf;simp only[cG];rfl
def sQ(c:Cl):Sp:=fun vs H Q _=>∃(T:Tb)(a dx rw ll rl gd:Addr)(i:Nat)(ls rs:List ae)(m1 m2:Nat),vs=[.ref a,iN (2^i),.ref rw,.ref gd]/\bP c.P c.T H T/\H a=some (.ins c.P dx [])/\H rw=some (.tup [.ref ll,.ref rl])/\H ll=some (.lst (ls.map T.at))/\H rl=some (.lst (rs.map T.at))/\H gd=some (.tup [iN m1,iN m2])/\(∀x∈ls,x∈T.gs)/\(∀x∈rs,x∈T.gs)/\ls.length+rs.length<=sizeLine/\∀rb ag H',H rb=none->H ag=none->(∀b o,H b=some o->b≠a->H' b=some o)->H' a=some (.ins c.P dx (pf (2^i) rw rb ag (born (.mk ls rs)) (2^i|||aT T.bit ((ls++rs).flatMap ao))))->H' rb=some (.tup [iN (aT T.bit ls),iN (aT T.bit rs)])->H' ag=some (.lst [iN (m1|||2^i),iN (m2|||2^i)])->Q .non H'
section
variable{P:Program}{w:World}{K:W.Frag}{mg:Str->Option Value}{base:Heap}{c:Cl}
theorem vk {f:Addr} {fd:FuncData} (F:dB K "__init__" "Part.__init__" lq f fd) (tx:dc K mg c) (gB:gX P w K mg base 1 "bits_of" ["parts"] (zt K c)):bj P w K mg base (cH P w) 2 f fd ["self","bit","rows","as_good"] (sQ c):=by
 refine F.ok0 qr (fun vs H Q E h=>?_) (fun cdv A outer s H vs Q E hr h=>?_)
 ·obtain⟨T,a,dx,rw,ll,rl,gd,i,ls,rs,m1,m2,rfl,_⟩:=h;rfl
 ·obtain⟨T,a,dx,rw,ll,rl,gd,i,ls,rs,m1,m2,rfl,t,ha,hrw,hll,hrl,hgd,h1,h2,z,q⟩:=h;refine⟨_,af (cE (pv 0) (pv 1) rfl) (af (cE (pv 0) (pv 2) rfl) (af (cE (pv 0) (r8 (aa (bS gB hr bq (aa (cu K (pv 2) (aL tx.LEFT) (fun _ _=>rfl)) aj)) (aa (bS gB hr bq (aa (cu K (pv 2) (aL tx.RIGHT) (fun _ _=>rfl)) aj)) aj))) rfl) (af (cE (pv 0) (bb (aa (aO oo (cu K (pv 3) (aL tx.LEFT) (fun _ _=>rfl)) (pv 1)) (aa (aO oo (cu K (pv 3) (aL tx.RIGHT) (fun _ _=>rfl)) (pv 1)) aj))) rfl) (af (cE (pv 0) aA rfl) (af (cE (pv 0) (pv 1) rfl) (ak (cg PassesOwn.never rfl (oK K (aO i3 (cu K (pv 2) (aL tx.LEFT) (fun _ _=>rfl)) (cu K (pv 2) (aL tx.RIGHT) (fun _ _=>rfl)))) (jw (i:=4) qr.nd rfl (Or.inl rfl)) (af (cE (pv 0) (aJ (Bk rfl) (by rfl) tx.max AS (aa (fk K (pv 0)) (aa (aO gv (fk K (pv 4)) aA) aj))) rfl) (ak (lU (pv 0) (fk K (pv 4)) ir)))))))))),?_⟩;refine sq (qN yv yv ha tx.clP tx.bit (by decide) ?_);refine sq (qN yv yv ah tx.clP tx.rows (by show 1<1000;decide) ?_);rw[dq];have off:∀{o:HO}(b:Addr)(u:HO),H b=some u->b≠a->aI H a o b=some u:=fun b u e n=>by rw[ai n];exact e
  have na:∀{b:Addr}{u:HO},H b=some u->u≠.ins c.P dx []->b≠a:=fun e n=>cv e ha n;have nrw:=na hrw (fun h=>by cases h);have nll:=na hll (fun h=>by cases h);have nrl:=na hrl (fun h=>by cases h);have ngd:=na hgd (fun h=>by cases h);refine sq (FN (.cons (.call (.one (.ixT yv .c (i6.of (off _ _ hrw nrw)) rfl)) fun Q r=>⟨ll,T,_,ls,rfl,t.off ha off,h1,aV.of (off _ _ hll nll),r⟩) (.one (.call (.one (.ixT yv .c (i6.of (off _ _ hrw nrw)) rfl)) fun Q r=>⟨rl,T,_,rs,rfl,t.off ha off,h2,aV.of (off _ _ hrl nrl),r⟩))) (by show 2<=sizeLine;decide) (fun _ _=>yv) ah tx.clP tx.row_bits (by show 2<1000;decide) fun rb hrb=>?_)
  have Hrb:H rb=none/\rb≠a:=by
   constructor
   ·by_cases e:rb=a
    ·rw[e,ah]at hrb;cases hrb
    ·rwa [ai e]at hrb
   ·intro e;rw[e,ah]at hrb;cases hrb
  let G1:=aI H rb (.tup [iN (aT T.bit ls),iN (aT T.bit rs)])
  have comm:∀(o u:HO)(p:Addr),p≠a->∀(G:Hp)(v:HO),aI (aI (aI G a o) p u) a v=aI (aI G p u) a v:=by
   intro o u p hp G v;funext b;unfold aI;by_cases e1:b=a
   ·simp[e1]
   ·simp[e1]
  rw[comm _ _ _ Hrb.2];have s1:aB H G1:=aW Hrb.1;refine sq (B4 (.cons (.i0 (.ixT yv .c (i6.of (by rw[ai ngd];exact s1 _ _ hgd)) rfl) yv) (.one (.i0 (.ixT yv .c (i6.of (by rw[ai ngd];exact s1 _ _ hgd)) rfl) yv))) (by show 2<=sizeLine;decide) (fun _ _=>yv) ah tx.clP tx.as_good (by show 3<1000;decide) fun ag hag=>?_);dsimp only;rw[vJ,vJ]
  have Hag:G1 ag=none/\ag≠a:=by
   constructor
   ·by_cases e:ag=a
    ·rw[e,ah]at hag;cases hag
    ·rwa [ai e]at hag
   ·intro e;rw[e,ah]at hag;cases hag
  let G2:=aI G1 ag (.lst [iN (m1|||2^i),iN (m2|||2^i)]);rw[comm _ _ _ Hag.2];have s2:aB H G2:=iZ s1 Hag.1;refine sq (qN .c yv ah tx.clP tx.birthday (by show 4<1000;decide) ?_);rw[dq];refine sq (qN yv yv ah tx.clP tx.inside (by show 5<1000;decide) ?_);rw[dq];rw[DZ];dsimp only;have ga:G2 a=some (.ins c.P dx []):=s2 _ _ ha;refine CQ (f:=T.at) (ys:=ls) (zs:=rs) (p:=ll) (q:=rl) (.ixT yv .c (i6.of (by rw[ai nrw];exact s2 _ _ hrw)) rfl) (.ixT yv .c (i6.of (by rw[ai nrw];exact s2 _ _ hrw)) rfl) (by rw[ai nll];exact s2 _ _ hll) (by rw[ai nrl];exact s2 _ _ hrl) z (fun l j σ H'=>∃v,G2 l=none/\σ=[some (.ref a),some (iN (2^i)),some (.ref rw),some (.ref gd),v]/\H'=aI (aI G2 l (.lst ((ls++rs).map T.at))) a (.ins c.P dx (pf (2^i) rw rb ag (bL 0 ((ls++rs).take j)) (2^i|||aT T.bit (((ls++rs).take j).flatMap ao))))) ?_ ?_ ?_ ?_
  ·intro l hl
   have hl':G2 l=none/\l≠a:=by
    constructor
    ·by_cases e:l=a
     ·rw[e,ah]at hl;cases hl
     ·rwa [ai e]at hl
    ·intro e;rw[e,ah]at hl;cases hl
   refine⟨none,hl'.1,rfl,?_⟩;rw[List.take_zero,List.flatMap_nil];funext b;unfold aI;by_cases e1:b=a
   ·rw[if_pos e1,if_neg (by rw[e1];exact fun e=>hl'.2 e.symm),if_pos e1];simp[bL,aT]
   ·rw[if_neg e1,if_neg e1];rfl
  ·rintro l j σ H' ⟨v,hl,_,rfl⟩;have:l≠a:=fun e=>by rw[e,ga]at hl;cases hl
   rw[ai this,ah]
  ·rintro l j x σ H' hx ⟨v,hl,rfl,rfl⟩;have mx:x∈T.gs:=(List.mem_append.mp (List.mem_of_getElem? hx)).elim (h1 x) (h2 x);have t2:∀u,bP c.P c.T (aI (aI G2 l (.lst ((ls++rs).map T.at))) a u) T:=fun u=>(t.off ha fun b o e n=>by rw[ai n,ai (au (s2 _ _ e) hl)];exact s2 _ _ e)
   refine sq (qN (v:=iN (bL 0 ((ls++rs).take (j+1)))) ?_ yv ah tx.clP tx.birthday (by show 6<1000;decide) ?_)
   ·rw[a7 hx,sy];exact .mx (.fld yv ah tx.clP tx.birthday kZ) (aD.i0 (r0 tx (t2 _) mx yv) .c)
   ·rw[dq];refine wq yv (sN tx (t2 _) mx yv) ah tx.clP tx.inside rfl (by show 6<1000;decide) ⟨some (T.at x),hl,rfl,?_⟩;rw[dq,vJ,a7 hx,List.flatMap_append,List.flatMap_singleton,<-fI,<-Nat.or_assoc];rfl
  ·rintro l σ H' ⟨v,hl,rfl,rfl⟩;rw[List.take_length,Cs];have nla:l≠a:=fun e=>by rw[e,ga]at hl;cases hl
   have hrb2:G2 rb=some (.tup [iN (aT T.bit ls),iN (aT T.bit rs)]):=by show aI G1 ag _ rb=_;rw[ai (au ah Hag.1)];exact ah
   refine q rb ag _ Hrb.1 (s1.free Hag.1) (fun b o e n=>?_) ah ?_ ?_
   ·rw[ai n,ai (au (s2 _ _ e) hl)];exact s2 _ _ e
   ·rw[ai Hrb.2,ai (au hrb2 hl)];exact hrb2
   ·rw[ai Hag.2,ai (au (show G2 ag=some (.lst [iN (m1|||2^i),iN (m2|||2^i)])from ah) hl)];exact ah
def lj(c:Cl):Sp:=fun vs H Q _=>∃(a dx:Addr)(n:Nat),vs=[.ref a,iN n]/\H a=some (.ins c.T dx [])/\∀pl sd H',H pl=none->H sd=none->(∀b o,H b=some o->b≠a->H' b=some o)->H' a=some (.ins c.T dx (tf n pl 0 0 sd))->H' pl=some (.lst [])->H' sd=some (.dK [])->Q .non H'
theorem uc {f:Addr} {fd:FuncData} (F:dB K "__init__" "Table.__init__" jH f fd) (tx:dc K mg c):bj P w K mg base (cH P w) 1 f fd ["self","most_options"] (lj c):=by
 refine F.ok0 vO (fun vs H Q E h=>?_) (fun cdv A outer s H vs Q E hr h=>?_)
 ·obtain⟨a,dx,n,rfl,_⟩:=h;rfl
 ·obtain⟨a,dx,n,rfl,ha,q⟩:=h;refine⟨_,af (cE (pv 0) (pv 1) rfl) (af (cE (pv 0) (bb aj) rfl) (af (cE (pv 0) aA rfl) (af (cE (pv 0) aA rfl) (ak (cE (pv 0) ig rfl))))),?_⟩;refine sq (qN yv yv ha tx.clT tx.most_options (by decide) ?_);refine sq (B4 .nil (Nat.zero_le _) (fun _ _=>yv) ah tx.clT tx.parts (by show 1<1000;decide) fun pl hpl=>?_)
  have Hpl:H pl=none/\pl≠a:=by
   constructor
   ·by_cases e:pl=a
    ·rw[e,ah]at hpl;cases hpl
    ·rwa [ai e]at hpl
   ·intro e;rw[e,ah]at hpl;cases hpl
  refine sq (qN .c yv ah tx.clT tx.used_bits (by show 2<1000;decide) ?_);rw[dq];refine sq (qN .c yv ah tx.clT tx.options_in_all (by show 3<1000;decide) ?_);rw[dq];intro sd hsd
  have Hsd:aI H pl (.lst []) sd=none/\sd≠a:=by
   constructor
   ·by_cases e:sd=a
    ·rw[e,ah]at hsd;cases hsd
    ·rw[ai e]at hsd;by_cases e':sd=pl
     ·rw[e',ah]at hsd;cases hsd
     ·rw[ai e']at hsd⊢;rwa [ai e]at hsd
   ·intro e;rw[e,ah]at hsd;cases hsd
  have nsp:pl≠sd:=au (ah (H:=H) (o:=HO.lst [])) Hsd.1;refine(yv:aD (aZ 0) _ _ (.ref a)) _ ⟨a,c.T,dx,_,rfl,by rw[ai (fun e=>Hsd.2 e.symm)];exact ah,tx.clT,tx.sums,by show 4<1000;decide,?_⟩;refine q pl sd _ Hpl.1 ((aW Hpl.1).free Hsd.1) (fun b o e n=>?_) ?_ ?_ ?_
  ·rw[ai n,ai (au e ((aW Hpl.1).free Hsd.1)),ai n,ai (au e Hpl.1),ai n];exact e
  ·rw[ah];rfl
  ·rw[ai Hpl.2,ai nsp,ai Hpl.2,ah]
  ·rw[ai Hsd.2,ah]
end
theorem r_{p:Prop}(i:Decidable p):bB p=@decide p i:=by
 by_cases h:p
 ·rw[i5 h,decide_eq_true h]
 ·rw[n4 h,decide_eq_false h]
theorem Dj{p q:Prop}(h:p↔q):bB p=bB q:=by rw[propext h]
theorem wK{bit:ae->Nat}{gs l m:List ae}(inj:D2 bit gs)(hl:∀x∈l,x∈gs)(hm:∀x∈m,x∈gs)(e:aT bit l=aT bit m)(x:ae):x∈l↔x∈m:=by
 have key:∀{l m:List ae},(∀x∈l,x∈gs)->(∀x∈m,x∈gs)->aT bit l=aT bit m->x∈l->x∈m:=by intro l m hl hm e h;have:=(eX (bit:=bit) (i:=bit x) (l:=l)).mpr ⟨x,h,rfl⟩;rw[e]at this;obtain⟨y,hy,ey⟩:=eX.mp this;rw[<-inj y (hm y hy) x (hl x h) ey];exact hy
 exact⟨key hl hm e,key hm hl e.symm⟩
theorem Fd(d:Bool):1-sd d=sd (!d):=by cases d<;>rfl
theorem yi{α:Type}{l:List α}{k:Nat}{x:α}(h:l[k]?=some x):l.drop k=x::l.drop (k+1):=by obtain⟨hi,rfl⟩:=List.getElem?_eq_some_iff.mp h;exact List.drop_eq_getElem_cons hi
theorem sE{α:Type}{l:List α}{k:Nat}{x:α}(h:l[k]?=some x):l=l.take k++x::l.drop (k+1):=by rw[<-yi h,List.take_append_drop]
theorem Co{α:Type}{f:α->V}{x:α}{xs:List α}:wL ((x::xs).map f) 0=some (f x):=vt (j:=0) rfl
theorem iD{σ:St}{H:Hp}{c:TT}{t u:TS}{b b':Bool}{D:bN}(h:Yt c σ H b)(e:b=b')(h1:b'=true->t D σ H)(h2:b'=false->u D σ H):va c t u D σ H:=DD h (fun k=>h1 (e▸k)) fun k=>h2 (e▸k)
theorem ma{g:ae}(h:bc g)(d:Bool):(opt d g).Nodup:=by
 cases h with
 |mk _ _ _ _ _ _ _ a b=>
  cases d
  ·exact a.imp fun{x y}h e=>by rw[e]at h;exact bE y h
  ·exact b.imp fun{x y}h e=>by rw[e]at h;exact bE y h
theorem ee{CP CT:Addr}{H:Hp}{T:Tb}{m:Bool->ae->Nat}(t:bX CP CT H T m){x:ae}(hx:x∈T.gs){d:Bool}:(opt d x).length<=96:=Nat.le_trans (aC (ma (t.ok.least x hx) d) (t.ok.opts x hx d)) t.len
theorem iq{CP CT:Addr}{H:Hp}{T:Tb}{m:Bool->ae->Nat}(t:bX CP CT H T m){x:ae}(hx:x∈T.gs){d:Bool}:(opt d x).length<=sizeLine:=Nat.le_trans (ee t hx) (by decide)
section
variable{X:Cx}{pos pos':Pos}{x:Str}{e:Expr}{te:TE}
theorem jc(i:Nat)(hN:X.N.Nodup)(hi:X.N[i]?=some x:=by rfl)(hx:Ed X.env.scope x:=by first|exact Or.inl rfl|exact Or.inr rfl)(hf:X.fn x=true\/X.env.scope.names.lookup x=some .local:=by first|exact .inl rfl|exact .inr rfl|assumption):PG X (.Name x pos) (bw i):=jw hN hi hx hf
theorem du(i:Nat)(hN:X.N.Nodup)(he:PE X e te)(hi:X.N[i]?=some x:=by rfl)(hx:Ed X.env.scope x:=by first|exact Or.inl rfl|exact Or.inr rfl)(hs:swapsWith e (some (.Name x pos')) pos.line X.env=pure false:=by rfl)(hf:X.fn x=true\/X.env.scope.names.lookup x=some .local:=by first|exact .inl rfl|exact .inr rfl|assumption):PS X (.Assign [.Name x pos'] e pos) (fV te (bw i)):=zm hN hi hx he hs hf
theorem FH(i:Nat){op:Operator}{ti:F8}(hN:X.N.Nodup)(he:PE X e te)(ho:Hz X op ti)(hi:X.N[i]?=some x:=by rfl)(hx:Ed X.env.scope x:=by first|exact Or.inl rfl|exact Or.inr rfl)(hf:X.fn x=true\/X.env.scope.names.lookup x=some .local:=by first|exact .inl rfl|exact .inr rfl|assumption):PS X (.AugAssign (.Name x pos') op e pos) (DF i te ti):=zp hN hi hx he ho hf
end
def An(c:Cl):Sp:=fun vs H Q _=>∃(T:Tb)(d:Bool)(l gd:Addr)(g:ae),vs=[.ref T.tb,.int (sd d),.ref l,.ref gd]/\bP c.P c.T H T/\H l=some (.lst ((opt d g).map T.at))/\(∀x∈opt d g,x∈T.gs)/\H gd=some (.tup [iN (aT T.bit (T.ge false g)),iN (aT T.bit (T.ge true g))])/\∀B p H',fK T.gs d g (opt d g) T.gs B->H p=none->aB H H'->H' p=some (.lst ((cV T.gs d B).map T.at))->Q (.ref p) H'
section
variable{P:Program}{w:World}{K:W.Frag}{mg:Str->Option Value}{base:Heap}{c:Cl}
open Classical in
set_option maxHeartbeats 4000000 in
theorem vB {f:Addr} {fd:FuncData} (F:dB K "least_row" "Table.least_row" fq f fd) (tx:dc K mg c) (gB:gX P w K mg base 1 "bits_of" ["parts"] (zt K c)):bj P w K mg base (cH P w) 2 f fd ["self","side","options","as_good"] (An c):=by
 refine F.ok0 a9 (fun vs H Q E h=>?_) (fun cdv A outer s H vs Q E hr h=>?_)
 ·obtain⟨T,d,l,gd,g,rfl,_⟩:=h;rfl
 ·obtain⟨T,d,l,gd,g,rfl,t,hl,ho,hgd,q⟩:=h
  refine⟨_,af (du 4 a9.nd (aO qd aA (pv 1)))
   (af (du 5 a9.nd (bS gB hr bq (aa (pv 2) aj)))
   (af (cg PassesOwn.never rfl (xM (by rfl) tx.reversed (aa (fk K (pv 0)) aj)) (jc 6 a9.nd)
    (ak (bC (yP (cY K (aO di (fk K (pv 6)) (pv 5))) (vX (cY K (aO di (cu K (fk K (pv 6)) (pv 4) (fun _ _=>rfl)) (cu K (pv 3) (pv 4) (fun _ _=>rfl)))))).pt
     (af (cy (i:=7) (own:=[("answer",9)]) rfl a9.nd rfl rfl (dr rfl rfl rfl rfl) (oK K (cu K (fk K (pv 6)) (pv 4) (fun _ _=>rfl))) (bD rfl)
       (fun _ _ _ _ _=>jc 9 a9.nd) (fun _ _ _ _ _=>l_ (cY K (aO di (fk K (pv 9)) (cu K (pv 3) (pv 4) (fun _ _=>rfl))))) (fun _ _ _ _ _=>pv 9))
      (ak (du 5 a9.nd (aO oo (aO FB (pv 5) (fk K (pv 6))) (cu K (fk K (ba K (pv 7) aA (fun _ _=>rfl))) (pv 1) (fun _ _=>rfl))))))
     a8)))
   (af (cy (i:=8) (own:=[("part",6)]) rfl a9.nd rfl rfl (dr rfl rfl rfl rfl) (oK K (fk K (pv 0))) (bD rfl)
     (fun _ _ _ _ _=>jc 6 a9.nd) (fun _ _ _ _ _=>l_ (cY K (aO di (fk K (pv 6)) (pv 5)))) (fun _ _ _ _ _=>pv 6))
   (ak (aN (sO (own:=[("part",6)]) rfl a9.nd (oK K (pv 8)) (bD rfl)
     (fun _ _ _ _ _=>jc 6 a9.nd) (fun _ _ _ _ _=>l_ (aK d5 (aO di (ba K (fk K (pv 6)) (pv 1) (fun _ _=>rfl)) (pv 5)) (fk K (pv 6)) (aX _))) (fun _ _ _ _ _=>pv 6))))))),?_⟩
  refine sq (fH (v:=.int (sd (!d))) (by rw[<-Fd];exact .i0 .c yv) ?_)
  refine sq (fH (.call (.one yv) fun Q r=>⟨l,T,_,opt d g,rfl,t,ho,aV.of hl,r⟩) ?_)
  have hgeN:∀x∈T.ge (!d) g,x∈T.gs:=fun x hx=>(bJ.mp hx).1
  refine sq (FT (a:=T.pl) (xs:=T.gs) (f:=T.at) (.one (d7 tx t yv)) (fun i σ H'=>∃B v6 v7,fK T.gs d g (opt d g) (T.gs.drop (T.gs.length-i)) B/\
   σ=[some (.ref T.tb),some (.int (sd d)),some (.ref l),some (.ref gd),some (.int (sd (!d))),some (iN (aT T.bit B)),v6,v7,none,none]/\aB H H') (aV.of t.lst) ?_ ?_ ?_ ?_)
  ·refine⟨opt d g,none,none,?_,rfl,aB.refl H⟩
   rw[Nat.sub_zero,List.drop_length];exact fK.start ho
  ·rintro i σ H' _ ⟨B,v6,v7,_,_,s1⟩
   exact aV.of (s1 _ _ t.lst)
  ·rintro i p σ H' hi hp ⟨B,v6,v7,I,rfl,s1⟩
   have hpm:p∈T.gs:=List.mem_of_getElem? hp
   have t1:=t.same s1
   have e1:T.gs.length-1-i+1=T.gs.length-i:=by omega
   have e2:T.gs.length-(i+1)=T.gs.length-1-i:=by omega
   have esp:T.gs=T.gs.take (T.gs.length-1-i)++p::T.gs.drop (T.gs.length-i):=by rw[<-e1];exact sE hp
   have edr:T.gs.drop (T.gs.length-(i+1))=p::T.gs.drop (T.gs.length-i):=by rw[e2,yi hp,e1]
   have q1:=cz (p:=bB (p∈B)) ((dh t.ok.inj hpm I.sub).trans bu.symm)
   have q2:=cz (p:=bB (∃w∈opt (!d) p,w∈T.ge (!d) g)) ((kF t.ok.inj (fun x hx=>t.ok.opts p hpm _ x hx) hgeN).trans bu.symm)
   have hge:wL [iN (aT T.bit (T.ge false g)),iN (aT T.bit (T.ge true g))] (sd (!d))=some (iN (aT T.bit (T.ge (!d) g))):=by cases d<;>rfl
   refine iD (Yt.and (Yt.n (aD.i0 (b_ tx t1 hpm yv) yv)) fun _=>Yt.n (aD.i0 (jN (d:=!d) tx t1 hpm yv yv) (.ixT yv yv (i6.of (s1 _ _ hgd)) hge))) (by rw[q1,q2]) (fun hb=>?_) (fun hb=>?_)
   ·rw[Bool.and_eq_true,bu,bu]at hb
    obtain⟨hpB,w0,hw0,hw0'⟩:=hb
    refine sq (kd (xs:=opt (!d) p) (f:=T.at) (e:=T.at) (p:=fun y=>bB (y∈T.ge (!d) g)) (iQ (d:=!d) tx t1 hpm yv yv) (aV.of (fg t1 hpm)) (iq t hpm) (fun y hy H2 s2=>?_) (fun y hy _ H2 s2=>aD.s yv) (fun D H2 hD s2 eD=>?_))
    ·have q3:=cz (p:=bB (y∈T.ge (!d) g)) ((dh t.ok.inj (t.ok.opts p hpm _ y hy) hgeN).trans bu.symm)
     rw[<-q3]
     exact(Yt.n (aD.i0 (b_ tx (t1.same s2) (t.ok.opts p hpm _ y hy) yv) (.ixT yv yv (i6.of (s2 _ _ (s1 _ _ hgd))) hge))).s
    ·obtain⟨w,rest,ew⟩:∃w rest,(opt (!d) p).filter (fun y=>bB (y∈T.ge (!d) g))=w::rest:=by
      cases e:(opt (!d) p).filter (fun y=>bB (y∈T.ge (!d) g))with
      |nil=>
       have:w0∈(opt (!d) p).filter (fun y=>bB (y∈T.ge (!d) g)):=dk.mpr ⟨hw0,hw0'⟩
       rw[e]at this;cases this
      |cons w rest=>exact⟨w,rest,rfl⟩
     have hw:w∈(opt (!d) p).filter (fun y=>bB (y∈T.ge (!d) g)):=by rw[ew];exact List.mem_cons_self
     have hw:=dk.mp hw
     have hwg:=t.ok.opts p hpm _ w hw.1
     rw[ew]at eD
     dsimp only
     refine fH (.i0 (.i0 yv (b_ tx (t1.same s2) hpm yv)) (jN (d:=d) tx (t1.same s2) hwg (.ixL yv .c (aV.of eD) Co) yv)) ?_
     refine⟨(B.filter fun y=>decide (y≠p))++opt d w,some (T.at p),some (.ref D),?_,?_,s1.trans s2⟩
     ·rw[edr];exact I.back t.ok esp hw.1 (bJ.mp hw.2).2
     ·show _=_
      rw[Hu,vJ,DE t.ok.inj hpB I.sub,fI]
      rfl
   ·refine⟨B,some (T.at p),v7,?_,rfl,s1⟩
    rw[edr]
    refine I.stay fun hpB w hw hgw=>?_
    have:(bB (p∈B)&&bB (∃w∈opt (!d) p,w∈T.ge (!d) g))=true:=by
     rw[Bool.and_eq_true,bu,bu]
     exact⟨hpB,w,hw,bJ.mpr ⟨t.ok.opts p hpm _ w hw,hgw⟩⟩
    rw[this]at hb;cases hb
  ·rintro σ H' ⟨B,v6,v7,I,rfl,s1⟩
   rw[Nat.sub_self,List.drop_zero]at I
   have t1:=t.same s1
   dsimp only
   refine sq (kd (xs:=T.gs) (f:=T.at) (e:=T.at) (p:=fun y=>bB (y∈B)) (d7 tx t1 yv) (aV.of t1.lst) (mq t) (fun y hy H2 s2=>?_) (fun y hy _ H2 s2=>aD.s yv) (fun D H2 hD s2 eD=>?_))
   ·have q3:=cz (p:=bB (y∈B)) ((dh t.ok.inj hy I.sub).trans bu.symm)
    rw[<-q3]
    exact(Yt.n (aD.i0 (b_ tx (t1.same s2) hy yv) yv)).s
   have t2:=t1.same s2
   dsimp only
   refine Ey (xs:=T.gs.filter fun y=>bB (y∈B)) (f:=T.at) (e:=T.at) (p:=fun p=>bB (∀y∈B,good d p y->y=p)) yv (aV.of eD) (sC (List.length_filter_le _ _) (mq t)) (fun y hy H3 s3=>?_) (fun y hy _ H2 s2=>aD.s yv) (fun D' H3 hD' s3 eD'=>?_)
   ·obtain⟨hy,hyB⟩:=dk.mp hy
    have t3:=t2.same s3
    have e:decide (Builtin.bitAnd ((aT T.bit (T.ge d y):Nat):Int) ((aT T.bit B:Nat):Int)=((2^T.bit y:Nat):Int))=bB (∀z∈B,good d y z->z=y):=by
     rw[Cn,wc t.ok.inj (fun z hz=>(bJ.mp hz).1) I.sub,<-vQ]
     refine Eq.trans (decide_eq_decide.mpr (?_:_↔(∀z∈B,good d y z->z=y))) (r_ (Classical.propDecidable _)).symm
     rw[Int.ofNat_inj]
     constructor
     ·intro h z hz hg
      have:=(wK t.ok.inj (fun z hz=>(bJ.mp (List.mem_filter.mp hz).1).1) (fun z hz=>by rw[List.mem_singleton.mp hz];exact hy) h z).mp (List.mem_filter.mpr ⟨bJ.mpr ⟨I.sub z hz,hg⟩,decide_eq_true hz⟩)
      exact List.mem_singleton.mp this
     ·intro h
      refine f_ fun z=>⟨fun hz=>?_,fun hz=>?_⟩
      ·obtain⟨a,b⟩:=List.mem_filter.mp hz
       exact List.mem_singleton.mpr (h z (of_decide_eq_true b) (bJ.mp a).2)
      ·rw[List.mem_singleton.mp hz]
       exact List.mem_filter.mpr ⟨bJ.mpr ⟨hy,mw _ _⟩,decide_eq_true hyB⟩
    rw[<-e]
    exact(Yt.b (aD.eq (aD.i0 (mD (d:=d) tx t3 hy yv yv) yv) (b_ tx t3 hy yv))).s
   ·have el:(T.gs.filter fun y=>bB (y∈B)).filter (fun p=>bB (∀y∈B,good d p y->y=p))=cV T.gs d B:=by
     unfold cV
     rw[show(fun y=>bB (y∈B))=(fun p=>decide (p∈B))from funext fun y=>r_ _,show(fun p=>bB (∀y∈B,good d p y->y=p))=(fun p=>decide (∀y∈B,good d p y->y=p))from funext fun y=>r_ _]
    rw[el]at eD'
    exact q B D' H3 I ((s1.trans s2).free hD') ((s1.trans s2).trans s3) eD'
end
structure k_(c:Cl)(H:Hp)(T:Tb)(a:Addr)(g:ae)(b ins:Nat)(dx rw rb ag ll rl:Addr):Prop where
 obj:H a=some (.ins c.P dx (pf b rw rb ag (born g) ins))
 rw:H rw=some (.tup [.ref ll,.ref rl])
 ll:H ll=some (.lst (g.left.map T.at))
 rl:H rl=some (.lst (g.right.map T.at))
theorem bX.like{c:Cl}{H:Hp}{T:Tb}{m:Bool->ae->Nat}(t:bX c.P c.T H T m){x:ae}(hx:x∈T.gs):k_ c H T (T.pa x).obj x (2^T.bit x) (aT T.bit (ao x)) (T.pa x).dct (T.pa x).rw (T.pa x).rb (T.pa x).ag (T.pa x).ll (T.pa x).rl:=⟨(t.part x hx).obj,(t.part x hx).rw,(t.part x hx).ll,(t.part x hx).rl⟩
section
variable{α:Type}{K:W.Frag}{σ:St}{H:Hp}{D:bN}{tb:TS}{a:Addr}{xs:List α}{f:α->V}
theorem z_{ta:TA}{p q:Nat}(hi:YA ta σ H [.ref a])(Pv:Nat->St->Hp->Prop)(hl0:aV K H a (xs.map f))(h0:Pv 0 σ H)(hl:∀i σ H,i<=xs.length->Pv i σ H->aV K H a (xs.map f)) (hs:∀i x σ H,xs[i]?=some x->Pv i σ H->∀U,H U=none->tb { D with nx:=Pv (i+1),ct:=Pv (i+1),bk:=D.nx } ((σ.set p (some (iN i))).set q (some (f x))) (aI H U (.tup [iN i,f x]))) (hd:∀σ H,Pv xs.length σ H->D.nx σ H) :vb (Ex K ta) (Fu K 2 (xk (bw p) (xk (bw q) Fo))) tb D σ H:=by
 refine hi _ ⟨a,_,rfl,hl0,fun i m σ H=>Pv i σ H/\m=xs.length-i/\i<=xs.length,⟨_,h0,rfl,Nat.zero_le _⟩,fun i m σ H⟨p,em,hle⟩=>?_⟩;have hL:=hl i σ H hle p;by_cases c:i<xs.length
 ·right;obtain⟨x,hx⟩:∃x,xs[i]?=some x:=⟨_,List.getElem?_eq_getElem c⟩
  have hm:(xs.map f)[i]?=some (f x):=by rw[List.getElem?_map,hx];rfl
  refine⟨⟨_,_,hL,hm⟩,Pv (i+1),fun σ' H' q=>⟨m-1,by omega,q,by omega,by omega⟩,?_⟩;rintro y H' ⟨U,z,rfl,hU,rfl,hz⟩;have:=hz _ hL;rw[hm]at this;cases this;exact⟨U,_,rfl,i6.of ah,rfl,_,_,rfl,_,_,rfl,rfl,hs i x σ H hx p U hU⟩
 ·left;have:i=xs.length:=by omega
  subst this;exact⟨⟨_,hL,by rw[List.length_map];exact Nat.le_refl _⟩,hd σ H p⟩
end
theorem Av{td ty tv:TE}{σ:St}{H:Hp}{D:bN}{a:Addr}{k:dU}{v:V}{kvs:List (dU×V)}(hv:aD tv σ H v)(ha:aD td σ H (.ref a))(hk:aD ty σ H (kV k))(e:H a=some (.dK kvs))(z:kvs.length<sizeLine)(q:D.nx σ (aI H a (.dK (iS kvs k v)))):CK td ty tv D σ H:=hv _ (ha _ (hk _ ⟨a,_,rfl,w6.k e z,q⟩))
theorem mE{σ:St}{H:Hp}{D:bN}{i:Nat}(q:∀p,H p=none->D.nx (σ.set i (some (.ref p))) (aI H p (.dK []))):fV C7 (bw i) D σ H:=q
theorem Ha {K:W.Frag} {H:Hp} {p:Addr} {xs:List V} (e:H p=some (.lst xs)):GX K "list" (.ref p) H:=.inl ⟨rfl,_,aV.of e⟩
theorem sF {K:W.Frag} {r:V->List V->Hp->VK->Prop} {to:TE} {t:TA} {D:bN} {σ:St} {H:Hp} {p:Addr} {xs vs:List V} (ho:aD to σ H (.ref p)) (e:H p=some (.lst xs)) (ha:YA t σ H vs) (q:r (.ref p) vs H (fun _ H'=>D.nx σ H')):ka (Gq K "list" r to t) D σ H:=ho _ ⟨Ha e,ha _ q⟩
theorem F_{r:R2}{ta tb:TE}{σ:St}{H:Hp}{Q:Bool->Hp->Prop}{x:V}(ha:aD ta σ H x)(h:tb σ H fun y H2=>r x y H2 fun v H'=>∃k,v=.bl k/\Q k H'):uF (fB r ta tb) σ H Q:=ha _ h
theorem AG{sp:Sp}{E:XK}{t:TA}{σ:St}{H:Hp}{Q:VK}{vs:List V}(h:YA t σ H vs)(q:sp (vs++[]) H Q E):fY sp [] E t σ H Q:=h _ q
theorem lF{C:Addr}{m:Str}{sp:Sp}{E:XK}{t:TA}{ta:TE}{σ:St}{H:Hp}{Q:VK}{vs:List V}{a dx:Addr}{fs:List (Str×V)}(ha:aD ta σ H (.ref a))(e:H a=some (.ins C dx fs))(l:fs.lookup m=none)(h:YA t σ H vs)(q:sp (.ref a::(vs++[])) H Q E):fx C m sp [] E ta t σ H Q:=ha _ ⟨a,dx,fs,rfl,e,l,h _ q⟩
def oZ(c:Cl):Sp:=fun vs H Q _=>∃(T:Tb)(a:Addr)(g:ae)(b ins:Nat)(dx rw rb ag ll rl:Addr),vs=[.ref a]/\k_ c H T a g b ins dx rw rb ag ll rl/\Q (iN (optC g)) H
def xD(c:Cl):Sp:=fun vs H Q _=>∃(T:Tb)(m:Bool->ae->Nat)(a:Addr)(g:ae)(b ins:Nat)(dx rw rb ag ll rl:Addr),vs=[.ref T.tb,.ref a]/\bX c.P c.T H T m/\k_ c H T a g b ins dx rw rb ag ll rl/\(∀d,∀x∈opt d g,x∈T.gs)/\(∀d,(opt d g).length<=sizeLine)/\∀k H',k<=T.gs.length->(∀x,0<k->T.gs[k-1]?=some x->¬before g x)->(∀j x,k<=j->T.gs[j]?=some x->before g x)->(∀b o,H b=some o->b≠T.pl->H' b=some o)->H' T.pl=some (.lst ((T.gs.map T.at).take k++.ref a::(T.gs.map T.at).drop k))->Q .non H'
theorem u0:∀l m:List Int,HT.lexLt l m=BL l m
 |[],[]=>rfl
 |[],_::_=>rfl
 |_::_,[]=>rfl
 |x::l,y::m=>by
  rw[HT.lexLt,BL];by_cases e:x=y
  ·rw[if_pos e,if_pos e];exact u0 l m
  ·rw[if_neg e,if_neg e]
theorem D7{gs:List ae}{g h:ae}:DS (born g:Int) (born h:Int) (dz gs g.left) (dz gs h.left) (dz gs g.right) (dz gs h.right)=xZ gs g h:=by
 unfold DS xZ;simp only[HT.lexB,u0,Int.ofNat_inj,Int.ofNat_lt];by_cases e1:born g=born h
 ·by_cases e2:dz gs g.left=dz gs h.left
  ·by_cases e3:dz gs g.right=dz gs h.right
   ·simp[e1,e2,e3,xS];rfl
   ·simp[e1,e2,e3];simp[HT.lexB]
  ·simp[e1,e2];simp[HT.lexB]
 ·simp[e1];simp[HT.lexB]
section
variable{P:Program}{w:World}{K:W.Frag}{mg:Str->Option Value}{base:Heap}{c:Cl}
theorem pG {f:Addr} {fd:FuncData} (F:dB K "option_count" "Part.option_count" dY f fd) (tx:dc K mg c):bj P w K mg base (cH P w) 1 f fd ["self"] (oZ c):=by
 refine F.ok0 mZ (fun vs H Q E h=>?_) (fun cdv A outer s H vs Q E hr h=>?_)
 ·obtain⟨T,a,g,b,ins,dx,rw,rb,ag,ll,rl,rfl,_⟩:=h;rfl
 ·obtain⟨T,a,g,b,ins,dx,rw,rb,ag,ll,rl,rfl,p,q⟩:=h;refine⟨_,ak (aN (aO gv (aJ jP (by rfl) tx.len PySem.boot_len (aa (rF r9 (fO (pv 0) rfl) (aL tx.LEFT) (fun _ _=>rfl)) aj)) (aJ jP (by rfl) tx.len PySem.boot_len (aa (rF r9 (fO (pv 0) rfl) (aL tx.RIGHT) (fun _ _=>rfl)) aj)))),?_⟩;refine aD.i0 (aD.len (aD.one (.ixT (.fld yv p.obj tx.clP tx.rows ph) .c (i6.of p.rw) rfl)) (aV.of p.ll)) (aD.len (aD.one (.ixT (.fld yv p.obj tx.clP tx.rows ph) .c (i6.of p.rw) rfl)) (aV.of p.rl)) _ ?_;rw[List.length_map,List.length_map];exact q
set_option maxHeartbeats 4000000 in
theorem BD {f:Addr} {fd:FuncData} (F:dB K "insert_in_order" "Table.insert_in_order" cI f fd) (tx:dc K mg c) (gK:gX P w K mg base 1 "order_key" ["part","places"] (EE c)):bj P w K mg base (cH P w) 2 f fd ["self","part"] (xD c):=by
 refine F.ok0 eO (fun vs H Q E h=>?_) (fun cdv A outer s H vs Q E hr h=>?_)
 ·obtain⟨T,m,a,g,b,ins,dx,rw,rb,ag,ll,rl,rfl,_⟩:=h;rfl
 ·obtain⟨T,m,a,g,b,ins,dx,rw,rb,ag,ll,rl,rfl,t,p,ho,hz,q⟩:=h;have hu:=nj hr;have hu64:=hr.units;have nd:=eO.nd;refine⟨_,af (du 2 nd ig) (af (cg PassesOwn.never rfl (z7 (by rfl) tx.enumerate (aa (fk K (pv 0)) aj)) (ze rfl (jg (jc 3 nd) (jg (jc 4 nd) u5))) (ak (jI hu (pv 2) (fk K (pv 4)) (pv 3) rfl))) (af (du 5 nd (bS gK hr bq (aa (pv 1) (aa (pv 2) aj)))) (af (du 3 nd (aJ (gH K) (by rfl) tx.len PySem.boot_len (aa (fk K (pv 0)) aj))) (af (kG PassesOwn.never (yP (aK ow (pv 3) aA (aX _)) (vX (aK (Fe hu64) (pv 5) (bS gK hr bq (aa (ba K (fk K (pv 0)) (aO qd (pv 3) aA) (fun _ _=>rfl)) (aa (pv 2) aj))) (aX _)))).pt (ak (FH 3 nd aA zQ))) (ak (aR (ng PySem.F.plainAttrs_list PySem.F.slot_list_insert PySem.F.type_list_insert Bn (fk K (pv 0)) (aa (pv 3) (aa (pv 1) aj))))))))),?_⟩;refine sq (mE fun dp hdp=>?_);have s0:aB H (aI H dp (.dK [])):=aW hdp;dsimp only;refine sq (z_ (a:=T.pl) (xs:=T.gs) (f:=T.at) (.one (d7 tx (t.same s0) yv)) (fun i σ H'=>∃v3 v4 kvs,σ=[some (.ref T.tb),some (.ref a),some (.ref dp),v3,v4,none]/\aB H H'/\H' dp=some (.dK kvs)/\kvs.length<=i/\∀j x,j<i->T.gs[j]?=some x->bQ kvs (.inl ((2^T.bit x:Nat):Int))=some (iN j)) (aV.of (s0 _ _ t.lst)) ⟨none,none,[],rfl,s0,ah,Nat.le_refl _,fun j x h=>by omega⟩ ?_ ?_ ?_)
  ·rintro i σ H' _ ⟨_,_,_,_,s1,_⟩;exact aV.of (s1 _ _ t.lst)
  ·rintro i x σ H' hx ⟨v3,v4,kvs,rfl,s1,e1,l1,k1⟩ U hU;have hxm:=List.mem_of_getElem? hx;have s2:=iZ s1 (o:=HO.tup [iN i,T.at x]) hU;have hil:i<96:=Nat.lt_of_lt_of_le (List.getElem?_eq_some_iff.mp hx).1 t.len;refine Av (k:=.inl ((2^T.bit x:Nat):Int)) (kvs:=kvs) yv yv (b_ tx (t.same s2) hxm yv) (by rw[ai (au e1 hU)];exact e1) (Nat.lt_of_le_of_lt l1 (Nat.lt_trans hil (by decide))) ?_;refine⟨_,_,_,rfl,fun b o e=>?_,ah,Nat.le_trans (eK _ _ _) (by omega),fun j y hj hy=>?_⟩
   ·rw[ai (au e hdp)];exact s2 _ _ e
   ·rw[oF];by_cases e:y=x
    ·subst e;rw[if_pos rfl,wM t.ok.nodup hy hx]
    ·rw[if_neg,k1 j y ?_ hy]
     ·have:j≠i:=fun ej=>by rw[ej,hx]at hy;cases hy;exact e rfl
      omega
     ·intro h;injection h with h
      have h:=(Nat.pow_right_inj (by decide)).mp (Int.ofNat_inj.mp h);exact e (t.ok.inj y (List.mem_of_getElem? hy) x hxm h)
  ·rintro σ H' ⟨v3,v4,kvs,rfl,s1,e1,l1,k1⟩;have hk:∀x∈T.gs,bQ kvs (.inl ((2^T.bit x:Nat):Int))=some (iN (plc T.gs x)):=fun x hx=>k1 _ x (p9 hx).2 (p9 hx).1;dsimp only;refine sq (d9 (.cons yv (.one yv)) ⟨T,m,a,dx,rw,rb,ag,ll,rl,dp,b,born g,ins,g.left,g.right,kvs,rfl,t.same s1,s1 _ _ p.obj,s1 _ _ p.rw,s1 _ _ p.ll,s1 _ _ p.rl,ho false,ho true,hz false,hz true,e1,hk,fun tt l1' r1' H2 ht s2 et el er=>?_⟩);have s2':=s1.trans s2;dsimp only;refine sq (fH (.len (aD.one (d7 tx (t.same s2') yv)) (aV.of (s2' _ _ t.lst))) ?_);rw[List.length_map];refine sq ?_;refine⟨fun n σ H'=>n<=T.gs.length/\(∀j x,n<=j->T.gs[j]?=some x->before g x)/\σ=[some (.ref T.tb),some (.ref a),some (.ref dp),some (iN n),v4,some (.ref tt)]/\aB H2 H',⟨T.gs.length,Nat.le_refl _,fun j x hj hx=>?_,rfl,aB.refl _⟩,?_⟩
   ·have:=(List.getElem?_eq_some_iff.mp hx).1;omega
   rintro n σ H3 ⟨hn,hb,rfl,s3⟩;have s3':=s2'.trans s3;have t3:=t.same s3';have fin:∀H4,aB H3 H4->(∀x,0<n->T.gs[n-1]?=some x->¬before g x)->ka (Gq K "list" zV (dO K (aZ 0) "parts") (a_ (aZ 3) (a_ (aZ 1) ck))) { nx:=fun _ H'=>Q .non H',rt:=Q } [some (.ref T.tb),some (.ref a),some (.ref dp),some (iN n),v4,some (.ref tt)] H4:=by intro H4 s4 hlo;have s4':=s3'.trans s4;refine sF (d7 tx (t.same s4') yv) (s4' _ _ t.lst) (.cons yv (.one yv)) ⟨T.pl,_,n,_,rfl,rfl,s4' _ _ t.lst,by rw[List.length_map];exact hn,by rw[List.length_map];exact Nat.lt_of_le_of_lt t.len (by decide),?_⟩;exact q n _ hn hlo hb (fun b o e nb=>by rw[ai nb];exact s4' _ _ e) ah
   refine Yt.b (aD.i0 (ta:=aZ 3) (tb:=tC (.int 0)) (i:=n) (j:=0) (g:=fun i j=>.bl (decide (j<i))) yv .c) _ ?_;by_cases c0:0<n
   ·rw[decide_eq_true (show(0:Int)<((n:Nat):Int) by omega),if_pos rfl];have hn1:n-1<T.gs.length:=by omega
    obtain⟨x,hx⟩:∃x,T.gs[n-1]?=some x:=⟨_,List.getElem?_eq_getElem hn1⟩
    have hxm:=List.mem_of_getElem? hx;refine F_ yv (AG (.cons (aD.ixL (v:=T.at x) (d7 tx t3 yv) (aD.i0 yv .c) (aV.of (s3' _ _ t.lst)) (oi (j:=n-1) (by omega) (by rw[List.getElem?_map,hx];rfl))) (.one yv)) ?_);have lx:=t3.like hxm;refine⟨T,m,(T.pa x).obj,(T.pa x).dct,(T.pa x).rw,(T.pa x).rb,(T.pa x).ag,(T.pa x).ll,(T.pa x).rl,dp,2^T.bit x,born x,aT T.bit (ao x),x.left,x.right,kvs,rfl,t3,lx.obj,lx.rw,lx.ll,lx.rl,t.ok.opts x hxm false,t.ok.opts x hxm true,iq t hxm (d:=false),iq t hxm (d:=true),s3 _ _ (s2 _ _ e1),hk,fun u1 l2 r2 H4 hu1 s4 eu el2 er2=>?_⟩;refine⟨_,_,_,_,_,_,_,_,_,_,_,_,rfl,rfl,i6.of (s4 _ _ (s3 _ _ et)),i6.of eu,aV.of (s4 _ _ (s3 _ _ el)),aV.of el2,aV.of (s4 _ _ (s3 _ _ er)),aV.of er2,_,rfl,?_⟩;rw[D7];cases hkk:xZ T.gs g x with
    |true=>
     rw[if_pos rfl];have hbx:=(uk t.ok.rise ho (t.ok.opts x hxm)).mp hkk;refine⟨fun σ' H'=>n-1<=T.gs.length/\(∀j x,n-1<=j->T.gs[j]?=some x->before g x)/\σ'=[some (.ref T.tb),some (.ref a),some (.ref dp),some (iN (n-1)),v4,some (.ref tt)]/\aB H2 H',fun σ' H' h=>⟨n-1,by omega,h⟩,?_⟩;refine yX .c ⟨by omega,fun j y hj hy=>?_,?_,s3.trans s4⟩
     ·by_cases e:j=n-1
      ·rw[e,hx]at hy;cases hy;exact hbx
      ·exact hb j y (by omega) hy
     ·have:(((n:Nat):Int)-1)=((n-1:Nat):Int):=by omega
      rw[this];rfl
    |false=>
     rw[if_neg (by decide)];refine fin H4 s4 fun y _ hy hby=>?_;rw[hx]at hy;cases hy;have:=(uk t.ok.rise ho (t.ok.opts x hxm)).mpr hby
     rw[hkk]at this;cases this
   ·rw[decide_eq_false (show ¬(0:Int)<((n:Nat):Int) by omega),if_neg (by decide)];exact fin H3 (aB.refl _) fun x h=>absurd h c0
end
theorem Fl{K:W.Frag}{to ti te:TE}{g:Int->Int->V}{D:bN}{σ:St}{H:Hp}{p:Addr}{k x y:Int}{xs:List V}{j:Nat}(ho:aD to σ H (.ref p))(hi:aD ti σ H (.int k))(he:aD te σ H (.int y))(e:H p=some (.lst xs))(l:wL xs k=some (.int x))(hj:Dz xs.length k=some j) (q:D.nx σ (aI H p (.lst (xs.set j (g x y))))):BW to ti te (kh K) (n9 g) xw D σ H:=ho _ (hi _ ⟨p,xs,k,_,rfl,rfl,aV.of e,l,he _ ⟨x,y,rfl,rfl,p,xs,k,j,rfl,rfl,e,hj,q⟩⟩)
theorem wm{C:Addr}{sp:Sp}{E:XK}{t:TA}{σ:St}{H:Hp}{D:bN}{i:Nat}{vs:List V}(h:YA t σ H vs)(q:∀x dx,H x=none->H dx=none->dx≠x->sp (.ref x::(vs++[])) (aI (aI H dx (.own x)) x (.ins C dx [])) (fun v H2=>v=.non/\D.nx (σ.set i (some (.ref x))) H2) E):fV (tw C sp [] E t) (bw i) D σ H:=h _ q
section
variable{CP CT:Addr}{H H':Hp}{T:Tb}{m m':Bool->ae->Nat}
theorem bX.congr(t:bX CP CT H T m)(e:∀d,∀x∈T.gs,m d x=m' d x):bX CP CT H T m':=⟨t.ok,t.tab,t.lst,t.sum,t.sumK,t.sumN,fun x hx=>by rw[<-e false x hx,<-e true x hx];exact t.part x hx,t.agi,t.len,t.opt⟩
theorem gD{f:ae->V}{l:List ae}{a b:Nat}(hf:∀x,∃p,f x=.ref p):HO.lst (l.map f)≠.lst [iN a,iN b]:=by
 intro h;injection h with h
 cases l with
 |nil=>cases h
 |cons x l=>
  rw[List.map_cons]at h;injection h with h _
  obtain⟨p,e⟩:=hf x;rw[e]at h;cases h
theorem bX.setAg(t:bX CP CT H T m){x:ae}(hx:x∈T.gs){m1 m2:Nat}(e:∀y∈T.gs,∀d,m' d y=if bB (y=x)=true then(if d then m2 else m1)else m d y):bX CP CT (aI H (T.pa x).ag (.lst [iN m1,iN m2])) T m':=by
 have px:=(t.part x hx).ag;have k:∀{b:Addr}{o:HO},H b=some o->o≠.lst [iN (m false x),iN (m true x)]->aI H (T.pa x).ag (.lst [iN m1,iN m2]) b=some o:=fun e n=>by rw[ai (cv e px n)];exact e
 refine⟨t.ok,k t.tab (fun h=>by cases h),k t.lst (gD fun x=>⟨_,rfl⟩),k t.sum (fun h=>by cases h),t.sumK,t.sumN,fun y hy=>?_,t.agi,t.len,t.opt⟩;have p:=t.part y hy;refine⟨k p.obj (fun h=>by cases h),k p.rw (fun h=>by cases h),k p.ll (gD fun x=>⟨_,rfl⟩),k p.rl (gD fun x=>⟨_,rfl⟩),k p.rb (fun h=>by cases h),?_⟩;rw[e y hy,e y hy];by_cases c:y=x
 ·rw[i5 c,if_pos rfl,if_pos rfl,c,ah];rfl
 ·rw[n4 c,if_neg (by decide),if_neg (by decide),ai fun h=>c (t.agi y hy x hx h)];exact p.ag
end
noncomputable def xR(T:Tb)(g:ae)(i:Nat)(d:Bool)(x:ae):Nat:=if bB (good d x g)=true then T.m d x|||2^i else T.m d x
noncomputable def Tb.add(T:Tb)(g:ae)(i:Nat)(pg:Pa)(k:Nat):Tb:={ T with gs:=T.gs.take k++g::T.gs.drop k,bit:=fun x=>if bB (x=g)=true then i else T.bit x,pa:=fun x=>if bB (x=g)=true then pg else T.pa x }
section
variable{T:Tb}{g:ae}{i k:Nat}{pg:Pa}
theorem fb(hg:g∉T.gs){x:ae}(hx:x∈T.gs):(T.add g i pg k).bit x=T.bit x:=by show(if bB (x=g)=true then i else T.bit x)=_;rw[n4 (p:=x=g) (fun e=>hg (e▸hx)),if_neg (by decide)]
theorem jm:(T.add g i pg k).bit g=i:=by show(if bB (g=g)=true then i else T.bit g)=_;rw[i5 rfl,if_pos rfl]
theorem eC(hg:g∉T.gs){x:ae}(hx:x∈T.gs):(T.add g i pg k).pa x=T.pa x:=by show(if bB (x=g)=true then pg else T.pa x)=_;rw[n4 (p:=x=g) (fun e=>hg (e▸hx)),if_neg (by decide)]
theorem da:(T.add g i pg k).pa g=pg:=by show(if bB (g=g)=true then pg else T.pa g)=_;rw[i5 rfl,if_pos rfl]
theorem Da(hg:g∉T.gs){x:ae}(hx:x∈T.gs):(T.add g i pg k).at x=T.at x:=by unfold Tb.at;rw[eC hg hx]
theorem mQ(hg:g∉T.gs){l:List ae}(hl:∀x∈l,x∈T.gs):l.map (T.add g i pg k).at=l.map T.at:=List.map_congr_left fun x hx=>Da hg (hl x hx)
theorem jE(hg:g∉T.gs){l:List ae}(hl:∀x∈l,x∈T.gs):aT (T.add g i pg k).bit l=aT T.bit l:=BA fun x hx=>fb hg (hl x hx)
theorem o9(hg:g∉T.gs){l:List ae}(hl:∀x∈l,x∈T.gs):aT T.bit l|||2^i=aT (T.add g i pg k).bit (l++[g]):=by rw[<-lT,jm,jE hg hl]
theorem b9{x:ae}:x∈(T.add g i pg k).gs↔x=g\/x∈T.gs:=zD
theorem ED(hg:g∉T.gs){d:Bool}{x:ae}(hx:x∈T.gs):(T.add g i pg k).m d x=xR T g i d x:=by
 unfold xR;by_cases c:good d x g
 ·rw[i5 c,if_pos rfl];show _=aT T.bit (T.ge d x)|||2^i;rw[o9 hg (pg:=pg) (k:=k) (fun y hy=>(bJ.mp hy).1)];refine f_ fun y=>?_;rw[bJ,b9,List.mem_append,bJ,List.mem_singleton];constructor
  ·rintro⟨rfl|h,q⟩
   ·exact .inr rfl
   ·exact .inl ⟨h,q⟩
  ·rintro(⟨h,q⟩|rfl)
   ·exact⟨.inr h,q⟩
   ·exact⟨.inl rfl,c⟩
 ·rw[n4 c,if_neg (by decide)];show _=aT T.bit (T.ge d x);rw[<-jE hg (i:=i) (pg:=pg) (k:=k) (fun y hy=>(bJ.mp hy).1)];refine f_ fun y=>?_;rw[bJ,b9,bJ];constructor
  ·rintro⟨rfl|h,q⟩
   ·exact absurd q c
   ·exact⟨h,q⟩
  ·rintro⟨h,q⟩;exact⟨.inr h,q⟩
theorem vU(hg:g∉T.gs){d:Bool}:(T.add g i pg k).m d g=aT T.bit (T.ge d g)|||2^i:=by
 show aT _ _=_;rw[o9 hg (pg:=pg) (k:=k) (fun y hy=>(bJ.mp hy).1)];refine f_ fun y=>?_;rw[bJ,b9,List.mem_append,bJ,List.mem_singleton];constructor
 ·rintro⟨rfl|h,q⟩
  ·exact .inr rfl
  ·exact .inl ⟨h,q⟩
 ·rintro(⟨h,q⟩|rfl)
  ·exact⟨.inr h,q⟩
  ·exact⟨.inl rfl,mw _ _⟩
theorem Bt(ok:gm T.gs T.bit)(hg:g∉T.gs)(hi:∀x∈T.gs,T.bit x≠i){x:ae}(hx:x∈T.gs){d:Bool}:2^T.bit x&&&(aT T.bit (T.ge d g)|||2^i)≠0↔good d g x:=by
 have b0:=fb (i:=i) (pg:=T.pa g) (k:=0) hg hx;rw[<-b0,<-vU (pg:=T.pa g) (k:=0) hg]
 have inj:D2 (T.add g i (T.pa g) 0).bit (T.add g i (T.pa g) 0).gs:=by
  intro a ha b hb e;rcases b9.mp ha with ea|ha<;>rcases b9.mp hb with eb|hb
  ·rw[ea,eb]
  ·rw[ea,jm,fb hg hb]at e;exact absurd e.symm (hi b hb)
  ·rw[eb,jm,fb hg ha]at e;exact absurd e (hi a ha)
  ·rw[fb hg ha,fb hg hb]at e;exact ok.inj a ha b hb e
 rw[dh inj (b9.mpr (.inr hx)) (fun y hy=>(bJ.mp hy).1),bJ];exact⟨fun h=>h.2,fun h=>⟨b9.mpr (.inr hx),h⟩⟩
end
theorem uf{gs:List ae}{bit:ae->Nat}{f:ae->V}(ok:gm gs bit){x:ae}(hx:x∈gs){d:Bool}:HO.lst ((opt d x).map f)≠.lst (gs.map f):=by
 intro h;injection h with h
 have e:(opt d x).length=gs.length:=by rw[<-List.length_map (f:=f),h,List.length_map]
 have n:(x::opt d x).Nodup:=List.nodup_cons.mpr ⟨fun m=>by have:=kD m;omega,ma (ok.least x hx) d⟩
 have:=aC n (P:=gs) fun y hy=>by
  rcases List.mem_cons.mp hy with rfl|hy
  ·exact hx
  ·exact ok.opts x hx d y hy
 rw[List.length_cons]at this;omega
theorem Es{CP CT:Addr}{H H':Hp}{T:Tb}{g:ae}{i k:Nat}{pg:Pa}(t:bX CP CT H T (xR T g i))(hg:g∉T.gs)(lg:bc g)(og:∀d,∀x∈opt d g,x∈T.gs)(hi:∀x∈T.gs,T.bit x≠i) (hk:k<=T.gs.length) (lo:∀x,0<k->T.gs[k-1]?=some x->¬before g x) (up:∀j x,k<=j->T.gs[j]?=some x->before g x) (kp:∀b o,H b=some o->b≠T.pl->b≠T.tb->H' b=some o) (e1:H' T.tb=some (.ins CT T.dx (tf T.most T.pl (aT T.bit T.gs|||2^i) (optCount T.gs+optC g) T.sd))) (e2:H' T.pl=some (.lst ((T.gs.map T.at).take k++.ref pg.obj::(T.gs.map T.at).drop k))) (po:H' pg.obj=some (.ins CP pg.dct (pf (2^i) pg.rw pg.rb pg.ag (born g) (2^i|||aT T.bit ((g.left++g.right).flatMap ao))))) (prw:H' pg.rw=some (.tup [.ref pg.ll,.ref pg.rl])) (pll:H' pg.ll=some (.lst (g.left.map T.at))) (prl:H' pg.rl=some (.lst (g.right.map T.at))) (prb:H' pg.rb=some (.tup [iN (aT T.bit g.left),iN (aT T.bit g.right)])) (pag:H' pg.ag=some (.lst [iN (aT T.bit (T.ge false g)|||2^i),iN (aT T.bit (T.ge true g)|||2^i)])) (nag:∀x∈T.gs,(T.pa x).ag≠pg.ag) (len:T.gs.length+1<=96) (opt:optCount T.gs+optC g<=T.most):bP CP CT H' (T.add g i pg k):=by
 have kp':∀{b:Addr}{o:HO},H b=some o->o≠.lst (T.gs.map T.at)->o≠.ins CT T.dx (tf T.most T.pl (aT T.bit T.gs) (optCount T.gs) T.sd)->H' b=some o:=fun e n n'=>kp _ _ e (cv e t.lst n) (cv e t.tab n');have ref:∀x,∃p,T.at x=V.ref p:=fun x=>⟨_,rfl⟩
 refine⟨Bp t.ok hg lg og hk lo up (fun x hx=>fb hg hx) (fun x hx=>by rw[jm];exact hi x hx),?_,?_,kp' t.sum (fun h=>by cases h) (fun h=>by cases h),?_,t.sumN,?_,?_,?_,?_⟩
 ·rw[show(T.add g i pg k).tb=T.tb from rfl,e1];have a:aT (T.add g i pg k).bit (T.add g i pg k).gs=aT T.bit T.gs|||2^i:=by rw[o9 hg (pg:=pg) (k:=k) (fun y hy=>hy)];refine f_ fun y=>?_;rw[b9,List.mem_append,List.mem_singleton];exact or_comm
  have b:optCount (T.add g i pg k).gs=optCount T.gs+optC g:=j_;rw[a,b];rfl
 ·rw[show(T.add g i pg k).pl=T.pl from rfl,e2];show _=some (HO.lst ((T.gs.take k++g::T.gs.drop k).map (T.add g i pg k).at));rw[List.map_append,List.map_cons,mQ hg (fun x hx=>List.mem_of_mem_take hx),mQ hg (fun x hx=>List.mem_of_mem_drop hx),List.map_take,List.map_drop];show _=some (HO.lst (_++V.ref ((T.add g i pg k).pa g).obj::_));rw[da]
 ·intro kv hkv;obtain⟨x,hx,y,hy,z,hz,e,ez⟩:=t.sumK kv hkv;refine⟨x,b9.mpr (.inr hx),y,b9.mpr (.inr hy),z,b9.mpr (.inr hz),?_,ez⟩;rw[e,Da hg hz];unfold Tb.key;rw[fb hg hx,fb hg hy]
 ·intro x hx;rcases b9.mp hx with rfl|hx
  ·rw[vU hg,vU hg]
   have eb:aT (T.add x i pg k).bit (ao x)=2^i|||aT T.bit ((x.left++x.right).flatMap ao):=by
    have hs:∀y∈(x.left++x.right).flatMap ao,y∈T.gs:=by intro y hy;obtain⟨z,hz,hyz⟩:=List.mem_flatMap.mp hy;exact t.ok.part ((List.mem_append.mp hz).elim (og false z) (og true z)) (aP.mp hyz)
    rw[Nat.or_comm,o9 hg (pg:=pg) (k:=k) hs];refine f_ fun y=>?_;rw[rC,List.mem_append,List.mem_singleton,List.mem_flatMap,or_comm (b:=y=x)];constructor
    ·rintro(h|⟨d,z,hz,hy⟩)
     ·exact .inl h
     ·refine .inr ⟨z,?_,hy⟩;cases d
      ·exact List.mem_append.mpr (.inl hz)
      ·exact List.mem_append.mpr (.inr hz)
    ·rintro(h|⟨z,hz,hy⟩)
     ·exact .inl h
     ·exact(List.mem_append.mp hz).elim (fun h=>.inr ⟨false,z,h,hy⟩) (fun h=>.inr ⟨true,z,h,hy⟩)
   refine⟨?_,?_,?_,?_,?_,?_⟩
   ·rw[da,eb,jm];exact po
   ·rw[da];exact prw
   ·rw[da,pll,<-mQ hg (i:=i) (pg:=pg) (k:=k) (l:=x.left) (og false)];rfl
   ·rw[da,prl,<-mQ hg (i:=i) (pg:=pg) (k:=k) (l:=x.right) (og true)];rfl
   ·rw[da,prb,jE hg (l:=x.left) (og false),jE hg (l:=x.right) (og true)]
   ·rw[da];exact pag
  ·rw[ED hg hx,ED hg hx];have p:=t.part x hx;refine⟨?_,?_,?_,?_,?_,?_⟩
   ·rw[eC hg hx,fb hg hx,jE hg (fun y hy=>t.ok.part hx (aP.mp hy))];exact kp' p.obj (fun h=>by cases h) (fun h=>by injection h with _ _ h;cases h)
   ·rw[eC hg hx];exact kp' p.rw (fun h=>by cases h) (fun h=>by cases h)
   ·rw[eC hg hx];show _=some (HO.lst (x.left.map (T.add g i pg k).at));rw[mQ hg (l:=x.left) (t.ok.opts x hx false)];exact kp' p.ll (uf t.ok hx (d:=false)) (fun h=>by cases h)
   ·rw[eC hg hx];show _=some (HO.lst (x.right.map (T.add g i pg k).at));rw[mQ hg (l:=x.right) (t.ok.opts x hx true)];exact kp' p.rl (uf t.ok hx (d:=true)) (fun h=>by cases h)
   ·rw[eC hg hx,jE hg (l:=x.left) (t.ok.opts x hx false),jE hg (l:=x.right) (t.ok.opts x hx true)];exact kp' p.rb (fun h=>by cases h) (fun h=>by cases h)
   ·rw[eC hg hx];exact kp' p.ag (fun h=>gD ref h.symm) (fun h=>by cases h)
 ·intro x hx y hy e;rcases b9.mp hx with ex|hx<;>rcases b9.mp hy with ey|hy
  ·rw[ex,ey]
  ·rw[ex,da,eC hg hy]at e;exact absurd e.symm (nag y hy)
  ·rw[ey,da,eC hg hx]at e;exact absurd e (nag x hx)
  ·rw[eC hg hx,eC hg hy]at e;exact t.agi x hx y hy e
 ·show(T.gs.take k++g::T.gs.drop k).length<=96;rw[tR hk];exact len
 ·show optCount (T.gs.take k++g::T.gs.drop k)<=_;rw[j_];exact opt
theorem CH{C C':Addr}{m:Str}{sp sp':Sp}{E E':XK}{t:TA}{ta:TE}{σ:St}{H:Hp}{D:bN}{i:Nat}{a dx:Addr}{fs:List (Str×V)}(ha:aD ta σ H (.ref a))(e:H a=some (.ins C' dx fs))(l:fs.lookup m=none) (h:sp' [.ref a] H (fun v H1=>t σ H1 fun xs H2=>∀x dx,H2 x=none->H2 dx=none->dx≠x->sp (.ref x::((v::xs)++[])) (aI (aI H2 dx (.own x)) x (.ins C dx [])) (fun v H3=>v=.non/\D.nx (σ.set i (some (.ref x))) H3) E) E') :fV (tw C sp [] E (a_ (fx C' m sp' [] E' ta ck) t)) (bw i) D σ H:=ha _ ⟨a,dx,fs,rfl,e,l,h⟩
theorem Ai {n:Nat} {pl sd:Addr} {u u' o:Nat}:cG "used_bits" (iN u') (tf n pl u o sd)=tf n pl u' o sd:=by unfold tf;simp only[cG];rfl
theorem Aw {n:Nat} {pl sd:Addr} {u o o':Nat}:cG "options_in_all" (iN o') (tf n pl u o sd)=tf n pl u o' sd:=by unfold tf;simp only[cG];rfl
theorem CU {n:Nat} {pl pl' sd:Addr} {u o:Nat}:cG "parts" (.ref pl') (tf n pl u o sd)=tf n pl' u o sd:=by unfold tf;simp only[cG];rfl
theorem Ea {n:Nat} {pl sd sd':Addr} {u o:Nat}:cG "sums" (.ref sd') (tf n pl u o sd)=tf n pl u o sd':=by unfold tf;simp only[cG];rfl
theorem pJ{n:Nat}{pl sd:Addr}{u o:Nat}:(tf n pl u o sd).length<1000:=by show 5<1000;decide
def A3(T:Tb)(b:Addr):Prop:=∃x∈T.gs,b=(T.pa x).ag
theorem uJ{K:W.Frag}{mg:Str->Option Value}{c:Cl}{H:Hp}{T:Tb}{m:Bool->ae->Nat}{g y:ae}{i:Nat}{d:Bool}{D:bN}{σ:St}{x dx rw rb ag:Addr}{bn ins:Nat}(tx:dc K mg c)(t:bX c.P c.T H T m)(hg:g∉T.gs)(hi:∀x∈T.gs,T.bit x≠i)(hy:y∈T.gs)(hm:m d y=T.m d y) (y5:σ[5]?=some (some (T.at y))) (y3:σ[3]?=some (some (.ref x))) (ex:H x=some (.ins c.P dx (pf (2^i) rw rb ag bn ins))) (eag:H ag=some (.lst [iN (aT T.bit (T.ge false g)|||2^i),iN (aT T.bit (T.ge true g)|||2^i)])) (q:∀H',bX c.P c.T H' T (fun e z=>if bB (z=y/\e=d)=true then xR T g i e z else m e z)->Kp (A3 T) H H'->D.nx σ H') :va (fun σ H Q=>fB (n9 fun i j=>.int (Builtin.bitAnd i j)) (dO K (aZ 5) "bit") (fB (kh K) (dO K (aZ 3) "as_good") (tC (.int (sd (!d))))) σ H fun x H'=>∃k,vh K x H' k/\Q k H') (BW (dO K (aZ 5) "as_good") (tC (.int (sd d))) (dO K (aZ 3) "bit") (kh K) (n9 fun i j=>.int (Builtin.bitOr i j)) xw) cO D σ H:=by
 have hge:wL [iN (aT T.bit (T.ge false g)|||2^i),iN (aT T.bit (T.ge true g)|||2^i)] (sd (!d))=some (iN (aT T.bit (T.ge (!d) g)|||2^i)):=by cases d<;>rfl
 have qt:=cz (p:=bB (good d y g)) ((Bt t.ok hg hi hy (d:=!d)).trans (uE.trans bu.symm));refine iD (Yt.n (aD.i0 (b_ tx t hy (yv y5)) (.ixL (.fld (yv y3) ex tx.clP tx.as_good iz) .c (aV.of eag) hge))) qt (fun hb=>?_) (fun hb=>?_)
 ·have pa:=(t.part y hy).ag;have e1:wL [iN (m false y),iN (m true y)] (sd d)=some (.int ((m d y:Nat):Int)):=by cases d<;>rfl
  have e2:Dz [iN (m false y),iN (m true y)].length (sd d)=some (if d then 1 else 0):=by cases d<;>rfl
  refine Fl (.fld (yv y5) (t.part y hy).obj tx.clP tx.as_good iz) .c (.fld (yv y3) ex tx.clP tx.bit wI) pa e1 e2 ?_;rw[vJ];have e3:[iN (m false y),iN (m true y)].set (if d then 1 else 0) (iN (m d y|||2^i))=[iN (if d then m false y else m false y|||2^i),iN (if d then m true y|||2^i else m true y)]:=by cases d<;>rfl
  rw[e3];refine q _ (t.setAg hy fun z hz e=>?_) fun b o e n=>?_
  ·by_cases c1:z=y
   ·subst c1;rw[i5 (p:=z=z) rfl,if_pos rfl];by_cases c2:e=d
    ·subst c2;rw[i5 (p:=z=z/\e=e) ⟨rfl,rfl⟩,if_pos rfl];unfold xR;rw[hb,if_pos rfl];cases e
     ·rw[if_neg (by decide),if_neg (by decide),hm]
     ·rw[if_pos rfl,if_pos rfl,hm]
    ·rw[n4 (p:=z=z/\e=d) (fun h=>c2 h.2),if_neg (by decide)];cases e<;>cases d
     ·exact absurd rfl c2
     ·rfl
     ·rfl
     ·exact absurd rfl c2
   ·rw[n4 c1,n4 (p:=z=y/\e=d) (fun h=>c1 h.1),if_neg (by decide),if_neg (by decide)]
  ·rw[ai fun h=>n ⟨y,hy,h⟩];exact e
 ·refine q H (t.congr fun e z hz=>?_) fun b o e n=>e;by_cases c1:z=y/\e=d
  ·obtain⟨rfl,rfl⟩:=c1;rw[i5 (p:=z=z/\e=e) ⟨rfl,rfl⟩,if_pos rfl,hm];unfold xR;rw[hb,if_neg (by decide)]
  ·rw[n4 c1,if_neg (by decide)]
def EI(c:Cl):Sp:=fun vs H Q E=>∃(T:Tb)(rw ll rl gd:Addr)(g:ae),vs=[.ref T.tb,.ref rw,.ref gd]/\bP c.P c.T H T/\H rw=some (.tup [.ref ll,.ref rl])/\H ll=some (.lst (g.left.map T.at))/\H rl=some (.lst (g.right.map T.at))/\H gd=some (.tup [iN (aT T.bit (T.ge false g)),iN (aT T.bit (T.ge true g))])/\ll≠T.pl/\rl≠T.pl/\(∀d,∀x∈opt d g,x∈T.gs)/\bc g/\g∉T.gs/\(∀T' H',o5 (fun b=>b=rw\/b=ll\/b=rl) c.P c.T (fun x=>x=g) T H T' H'->g∈T'.gs->Q (T'.at g) H')/\∀T' H',jh c.P c.T (fun x=>x=g) T H T' H'->sv (fun x=>x=g) T'->E (.ref c.nR) none H'
section
variable{P:Program}{w:World}{K:W.Frag}{mg:Str->Option Value}{base:Heap}{c:Cl}
open Classical in
set_option maxHeartbeats 4000000 in
theorem yy {f:Addr} {fd:FuncData} (F:dB K "add_part" "Table.add_part" fM f fd) (tx:dc K mg c) (kP:EF P w K mg base 2 c.P "Part" ["self","bit","rows","as_good"] (sQ c))
  (mF:iV P w K mg base 1 c.T "free_bit" ["self"] (C5 c)) (mC:iV P w K mg base 1 c.P "option_count" ["self"] (oZ c)) (mI:iV P w K mg base 2 c.T "insert_in_order" ["self","part"] (xD c)) :
  bj P w K mg base (cH P w) 4 f fd ["self","rows","as_good"] (EI c):=by
 refine F.okX jf (fun vs H Q E h=>?_) (fun cdv A outer s H vs Q E hr L h=>?_)
 ·obtain⟨T,rw,ll,rl,gd,g,rfl,_⟩:=h;rfl
 ·obtain⟨T,rw,ll,rl,gd,g,rfl,t,hrw,hll,hrl,hgd,nll,nrl,ho,lg,hg,mk1,mk2⟩:=h
  have nd:=jf.nd
  have hr1:=hr.mono (show 1<=3 by decide)
  have hr2:=hr.mono (show 2<=3 by decide)
  refine⟨_,af (du 3 nd (El kP hr bq (aa (i4 mF tx.clT hr1 bq (pv 0)) (aa (pv 1) (aa (pv 2) aj)))))
   (af (du 4 nd (aO gv (fk K (pv 0)) (i4 mC tx.clP hr1 bq (pv 3))))
   (af (bC (uU (aK AB (aJ (gH K) (by rfl) tx.len PySem.boot_len (aa (fk K (pv 0)) aj)) (aL tx.MOST_PARTS) (aX _)) (rB (aK ow (pv 4) (fk K (pv 0)) (aX _)))).pt
    (ak (cN L (by rfl) tx.xnR)) a8)
   (af (cg L.pass L.calm (oK K (fk K (pv 0))) (jc 5 nd)
    (af (bC (cY K (aO di (fk K (pv 5)) (ba K (fk K (pv 3)) (aL tx.LEFT) (fun _ _=>rfl)))) (ak (rj (fk K (pv 5)) (aL tx.RIGHT) oH (fk K (pv 3)) ir de)) a8)
    (ak (bC (cY K (aO di (fk K (pv 5)) (ba K (fk K (pv 3)) (aL tx.RIGHT) (fun _ _=>rfl)))) (ak (rj (fk K (pv 5)) (aL tx.LEFT) oH (fk K (pv 3)) ir de)) a8))))
   (af (aR (cf mI tx.clT hr2 bq (pv 0) (aa (pv 3) aj)))
   (af (lU (pv 0) (fk K (pv 3)) ir)
   (af (cE (pv 0) (pv 4) rfl)
   (ak (aN (pv 3))))))))),?_⟩
  refine sq (CH yv t.tab rfl ⟨T,rfl,t,fun i hi=>YA.cons yv (.one yv) _ fun x dx hx hdx hne=>?_⟩)
  have s0:aB H (aI (aI H dx (.own x)) x (.ins c.P dx [])):=iZ (aW hdx) (by rw[ai (Ne.symm hne)];exact hx)
  have hz:∀d,(opt d g).length<=96:=fun d=>Nat.le_trans (aC (ma lg d) (ho d)) t.len
  refine⟨T,x,dx,rw,ll,rl,gd,i,g.left,g.right,_,_,rfl,t.same s0,ah,s0 _ _ hrw,s0 _ _ hll,s0 _ _ hrl,s0 _ _ hgd,ho false,ho true,Nat.le_trans (Nat.add_le_add (hz false) (hz true)) (by decide),fun rb ag H1 hrb hag kp ea erb eag=>⟨rfl,?_⟩⟩
  have s1:aB H H1:=fun b o e=>kp b o (s0 b o e) (au e hx)
  have t1:=t.same s1
  have eg:(ae.mk g.left g.right)=g:=by cases g;rfl
  rw[eg]at ea
  have hagH:H ag=none:=s0.free hag
  have PL:k_ c H1 T x g (2^i) (2^i|||aT T.bit ((g.left++g.right).flatMap ao)) dx rw rb ag ll rl:=⟨ea,s1 _ _ hrw,s1 _ _ hll,s1 _ _ hrl⟩
  dsimp only
  refine sq (fH (.i0 (Cu tx t1 yv) (.meth yv ea rfl .nil fun Q r=>⟨T,x,g,_,_,dx,rw,rb,ag,ll,rl,rfl,PL,r⟩)) ?_)
  dsimp only
  rw[<-Int.natCast_add]
  refine sq (iD (b':=decide (96<=T.gs.length)||decide (T.most<optCount T.gs+optC g)) (Yt.or (Yt.b (aD.i0 (.len (aD.one (d7 tx t1 yv)) (aV.of t1.lst)) .c)) (fun _=>Yt.b (aD.i0 yv (FW tx t1 yv)))) ?_ (fun hb=>?_) (fun hb=>?_))
  ·rw[List.length_map]
   congr 1
   ·exact decide_eq_decide.mpr ⟨fun h=>by omega,fun h=>by omega⟩
   ·exact decide_eq_decide.mpr ⟨fun h=>by omega,fun h=>by omega⟩
  ·rw[Bool.or_eq_true,decide_eq_true_iff,decide_eq_true_iff]at hb
   exact mk2 T H1 (.same t s1) ⟨g,rfl,hg,ho,lg,hb⟩
  rw[Bool.or_eq_false_iff,decide_eq_false_iff_not,decide_eq_false_iff_not]at hb
  have nAg:∀{b:Addr}{o:HO},H1 b=some o->(∀m1 m2:Nat,o≠.lst [iN m1,iN m2])->¬A3 T b:=by
   rintro b o e n ⟨y,hy,rfl⟩
   rw[(t1.part y hy).ag]at e
   cases e
   exact n _ _ rfl
  have nAgx:¬A3 T ag:=by
   rintro⟨y,hy,e⟩
   have:=(t.part y hy).ag
   rw[<-e,hagH]at this;cases this
  have ref:∀x,∃p,T.at x=V.ref p:=fun x=>⟨_,rfl⟩
  show ve _ _ _ _ _
  refine sq (t7 (a:=T.pl) (xs:=T.gs) (f:=T.at) (d7 tx t1 yv) (fun j σ H'=>∃v,σ=[some (.ref T.tb),some (.ref rw),some (.ref gd),some (.ref x),some (iN (optCount T.gs+optC g)),v]/\
   bX c.P c.T H' T (fun d y=>if y∈T.gs.take j then xR T g i d y else T.m d y)/\Kp (A3 T) H1 H') (aV.of t1.lst) ?_ ?_ ?_ ?_)
  ·exact⟨none,rfl,t1.congr fun d y hy=>by rw[List.take_zero,if_neg (by simp)],fun b o e _=>e⟩
  ·rintro j σ H' _ ⟨v,_,t2,_⟩
   exact aV.of t2.lst
  ·rintro j y σ H' hy ⟨v,rfl,t2,k2⟩
   have hym:=List.mem_of_getElem? hy
   have hyj:y∉T.gs.take j:=by
    intro h
    obtain⟨l,hl,e⟩:=List.mem_iff_getElem.mp h
    rw[List.length_take]at hl
    have:T.gs[l]?=some y:=by rw[<-e,List.getElem_take];exact List.getElem?_eq_getElem _
    have:=wM t.ok.nodup this hy
    omega
   have hj1:∀z∈T.gs,z∈T.gs.take (j+1)↔z∈T.gs.take j\/z=y:=fun z _=>by rw[a7 hy,List.mem_append,List.mem_singleton]
   have exH:∀{H2},Kp (A3 T) H1 H2->H2 x=some (.ins c.P dx (pf (2^i) rw rb ag (born g) (2^i|||aT T.bit ((g.left++g.right).flatMap ao)))):=fun k=>k _ _ ea (nAg ea fun _ _ h=>by cases h)
   have agH:∀{H2},Kp (A3 T) H1 H2->H2 ag=some (.lst [iN (aT T.bit (T.ge false g)|||2^i),iN (aT T.bit (T.ge true g)|||2^i)]):=fun k=>k _ _ eag nAgx
   have kT:∀{H2 H3},Kp (A3 T) H1 H2->Kp (A3 T) H2 H3->Kp (A3 T) H1 H3:=fun a b p o e n=>b p o (a p o e n) n
   refine sq (uJ (d:=true) (i:=i) tx t2 hg hi hym (by rw[if_neg hyj]) rfl rfl (exH k2) (agH k2) fun H2 t3 k3=>?_)
   refine uJ (d:=false) (i:=i) tx t3 hg hi hym (by rw[n4 (fun h=>by cases h.2),if_neg (by decide),if_neg hyj]) rfl rfl (exH (kT k2 k3)) (agH (kT k2 k3)) fun H3 t4 k4=>?_
   refine⟨some (T.at y),rfl,t4.congr fun d z hz=>?_,kT (kT k2 k3) k4⟩
   by_cases c1:z=y
   ·subst c1
    rw[if_pos ((hj1 z hz).mpr (.inr rfl))]
    cases d
    ·rw[i5 (p:=z=z/\false=false) ⟨rfl,rfl⟩,if_pos rfl]
    ·rw[n4 (p:=z=z/\true=false) (fun h=>by cases h.2),if_neg (by decide),i5 (p:=z=z/\true=true) ⟨rfl,rfl⟩,if_pos rfl]
   ·rw[n4 (p:=z=y/\d=false) (fun h=>c1 h.1),if_neg (by decide),n4 (p:=z=y/\d=true) (fun h=>c1 h.1),if_neg (by decide)]
    by_cases c2:z∈T.gs.take j
    ·rw[if_pos c2,if_pos ((hj1 z hz).mpr (.inl c2))]
    ·rw[if_neg c2,if_neg fun h=>((hj1 z hz).mp h).elim c2 c1]
  ·rintro σ H2 ⟨v,rfl,t2,k2⟩
   have t3:bX c.P c.T H2 T (xR T g i):=t2.congr fun d z hz=>by rw[List.take_length,if_pos hz]
   have kO:∀{b:Addr}{o:HO},H1 b=some o->(∀m1 m2:Nat,o≠.lst [iN m1,iN m2])->H2 b=some o:=fun e n=>k2 _ _ e (nAg e n)
   have ea2:=kO ea (fun _ _ h=>by cases h)
   have PL2:k_ c H2 T x g (2^i) (2^i|||aT T.bit ((g.left++g.right).flatMap ao)) dx rw rb ag ll rl:=⟨ea2,kO PL.rw (fun _ _ h=>by cases h),kO PL.ll (fun _ _=>gD ref),kO PL.rl (fun _ _=>gD ref)⟩
   dsimp only
   refine sq (dy yv t3.tab rfl (.one yv) ⟨T,_,x,g,_,_,dx,rw,rb,ag,ll,rl,rfl,t3,PL2,ho,fun d=>Nat.le_trans (hz d) (by decide),fun k H3 hk lo up k3 e3=>?_⟩)
   have et3:=k3 _ _ t3.tab (cv t3.tab t3.lst fun h=>by cases h)
   have ea3:=k3 _ _ ea2 (cv ea2 t3.lst fun h=>by cases h)
   dsimp only
   refine sq (wq yv (.fld yv ea3 tx.clP tx.bit wI) et3 tx.clT tx.used_bits rfl pJ ?_)
   rw[vJ,Ai]
   refine sq (qN yv yv ah tx.clT tx.options_in_all pJ ?_)
   rw[Aw,dq]
   dsimp only
   refine iG yv ?_
   let pg:Pa:=⟨x,dx,rw,ll,rl,rb,ag⟩
   have nx:∀{b:Addr}{o:HO},H2 b=some o->b≠T.pl->o≠.ins c.T T.dx (tf T.most T.pl (aT T.bit T.gs) (optCount T.gs) T.sd)->aI H3 T.tb (.ins c.T T.dx (tf T.most T.pl (aT T.bit T.gs|||2^i) (optCount T.gs+optC g) T.sd)) b=some o:=fun e n n'=>by
    rw[ai (cv e t3.tab n')];exact k3 _ _ e n
   have hlive:∀{b:Addr},b≠T.pl->b≠T.tb->∀o,H2 b=some o->aI H3 T.tb (.ins c.T T.dx (tf T.most T.pl (aT T.bit T.gs|||2^i) (optCount T.gs+optC g) T.sd)) b=some o:=fun n n' o e=>by
    rw[ai n'];exact k3 _ _ e n
   have agn:ag≠T.pl:=fun h=>by rw[h,t.lst]at hagH;cases hagH
   have agt:ag≠T.tb:=fun h=>by rw[h,t.tab]at hagH;cases hagH
   have rbH:H rb=none:=s0.free hrb
   have rbn:rb≠T.pl:=fun h=>by rw[h,t.lst]at rbH;cases rbH
   have xn:x≠T.pl:=fun h=>by rw[h,t.lst]at hx;cases hx
   have xt:x≠T.tb:=fun h=>by rw[h,t.tab]at hx;cases hx
   have tab':bP c.P c.T (aI H3 T.tb (.ins c.T T.dx (tf T.most T.pl (aT T.bit T.gs|||2^i) (optCount T.gs+optC g) T.sd))) (T.add g i pg k):=by
    refine Es (pg:=pg) t3 hg lg ho hi hk lo up (fun b o e n n'=>hlive n n' o e) ah (by rw[ai (cv t3.lst t3.tab fun h=>by cases h)];exact e3) (hlive xn xt _ ea2)
     (nx PL2.rw (cv PL2.rw t3.lst fun h=>by cases h) (fun h=>by cases h)) (nx PL2.ll nll (fun h=>by cases h)) (nx PL2.rl nrl (fun h=>by cases h))
     (nx (kO erb (fun _ _ h=>by cases h)) rbn (fun h=>by cases h)) (hlive agn agt _ (k2 _ _ eag nAgx)) (fun z hz h=>nAgx ⟨z,hz,h.symm⟩) (by omega) (by omega)
   have own:∀b,tK (T.add g i pg k) b->tK T b\/H b=none:=by
    intro b hb
    rcases hb with h|h|h|⟨z,hz,h⟩
    ·exact .inl (.inl h)
    ·exact .inl (.inr (.inl h))
    ·exact .inl (.inr (.inr (.inl h)))
    ·rcases b9.mp hz with ez|hz
     ·rw[ez,da]at h;subst h;exact .inr hagH
     ·rw[eC hg hz]at h;exact .inl (.inr (.inr (.inr ⟨z,hz,h⟩)))
   have kpF:Kp (tK T) H (aI H3 T.tb (.ins c.T T.dx (tf T.most T.pl (aT T.bit T.gs|||2^i) (optCount T.gs+optC g) T.sd))):=by
    intro b o e n
    have n1:b≠T.pl:=fun h=>n (.inr (.inl h))
    have n2:b≠T.tb:=fun h=>n (.inl h)
    refine hlive n1 n2 o (k2 _ _ (s1 _ _ e) ?_)
    rintro⟨z,hz,h⟩;exact n (.inr (.inr (.inr ⟨z,hz,h⟩)))
   have res:=mk1 (T.add g i pg k) _ ⟨tab',⟨rfl,rfl,fun z hz=>b9.mpr (.inr hz),fun z hz=>fb hg hz,fun z hz=>eC hg hz,fun z hz=>(b9.mp hz).symm,fun _ _ h=>h⟩,kpF,own,fun b hb=>?_,fun b hb=>?_⟩ (b9.mpr (.inl rfl))
   ·rw[show(T.add g i pg k).at g=V.ref x by unfold Tb.at;rw[da]]at res
    exact res
   ·rcases hb with h|⟨z,hz,h⟩
    ·exact(own b h).elim (fun h=>.inl (.inl h)) fun h=>.inr (.inl h)
    ·rcases b9.mp hz with ez|hz
     ·rw[ez,da]at h
      rcases h with h|h|h|h|h
      ·right;left;rw[show b=x from h];exact hx
      ·exact .inr (.inr (.inl h))
      ·exact .inr (.inr (.inr (.inl h)))
      ·exact .inr (.inr (.inr (.inr h)))
      ·right;left;rw[show b=rb from h];exact rbH
     ·rw[eC hg hz]at h;exact .inl (.inr ⟨z,hz,h⟩)
   ·cases e:H b with
    |none=>rfl
    |some o=>
     by_cases n:tK T b
     ·refine absurd hb (tab'.live ?_)
      rcases n with h|h|h|⟨z,hz,h⟩
      ·exact .inl h
      ·exact .inr (.inl h)
      ·exact .inr (.inr (.inl h))
      ·exact .inr (.inr (.inr ⟨z,b9.mpr (.inr hz),by rw[eC hg hz];exact h⟩))
     ·rw[kpF b o e n]at hb;cases hb
end
theorem DN{te1 te2:TE}{σ:St}{H:Hp}{D:bN}{i:Nat}(h:te1 σ H fun v H1=>te2 σ H1 fun w H2=>[v,w].length<=sizeLine/\∀p,H2 p=none->D.nx (σ.set i (some (.ref p))) (aI H2 p (.tup [v,w]))):fV (C9 (a_ te1 (a_ te2 ck))) (bw i) D σ H:=h
theorem DT{gs:List ae}{bit:ae->Nat}(ok:gm gs bit){p G:ae}(hp:p∈gs)(a:le G p)(b:le p G):p=aq G:=cC (ok.least p hp) ⟨b,a⟩
def ku(c:Cl):Sp:=fun vs H Q E=>∃(T:Tb)(l r:Addr)(ls rs:List ae),vs=[.ref T.tb,.ref l,.ref r]/\bP c.P c.T H T/\H l=some (.lst (ls.map T.at))/\H r=some (.lst (rs.map T.at))/\(∀x∈ls,x∈T.gs)/\(∀x∈rs,x∈T.gs)/\nq c.P c.T c.nR T H (fun x=>x=aq (.mk ls rs)) (aq (.mk ls rs)) Q E
abbrev fS(T:Tb)(l r:Addr)(U:Nat)(v4:Option V)(O a b:Nat)(v8:Option V):St:=[some (.ref T.tb),some (.ref l),some (.ref r),some (iN U),v4,some (iN O),some (iN a),some (iN b),v8,none,none]
theorem ni{α:Type}{l:List α}{x:α}{p:α->Bool}(h:p x=true):(l++[x]).filter p=l.filter p++[x]:=by rw[List.filter_append,List.filter_cons,if_pos h];rfl
theorem nu{α:Type}{l:List α}{x:α}{p:α->Bool}(h:p x=false):(l++[x]).filter p=l.filter p:=by rw[List.filter_append,List.filter_cons,if_neg (by rw[h];decide),List.filter_nil,List.append_nil]
section
variable{P:Program}{w:World}{K:W.Frag}{mg:Str->Option Value}{base:Heap}{c:Cl}
set_option maxHeartbeats 4000000 in
theorem zo {f:Addr} {fd:FuncData} (F:dB K "form_of" "Table.form_of" gp f fd) (tx:dc K mg c) (mL:iV P w K mg base 2 c.T "least_row" ["self","side","options","as_good"] (An c)) (mA:iV P w K mg base 4 c.T "add_part" ["self","rows","as_good"] (EI c)):bj P w K mg base (cH P w) 5 f fd ["self","lefts","rights"] (ku c):=by
 refine F.okX j7 (fun vs H Q E h=>?_) (fun cdv A outer s H vs Q E hr L h=>?_)
 ·obtain⟨T,l,r,ls,rs,rfl,_⟩:=h;rfl
 ·obtain⟨T,l,r,ls,rs,rfl,t,hl,hrr,hls,hrs,mk1,mk2⟩:=h;have nd:=j7.nd;have hr2:=hr.mono (show 2<=4 by decide);refine⟨_,af (du 3 nd aA) (af (cg L.pass L.calm (oK K (pv 1)) (jc 4 nd) (ak (FH 3 nd (ba K (fk K (pv 4)) (aL tx.RIGHT) (fun _ _=>rfl)) ir))) (af (du 5 nd aA) (af (cg L.pass L.calm (oK K (pv 2)) (jc 4 nd) (ak (FH 5 nd (ba K (fk K (pv 4)) (aL tx.LEFT) (fun _ _=>rfl)) ir))) (af (du 6 nd aA) (af (du 7 nd aA) (af (cg L.pass L.calm (oK K (fk K (pv 0))) (jc 8 nd) (af (bC (yN (uU (cY K (aO di (fk K (pv 8)) (pv 3))) (rB (cY K (aO di (cu K (fk K (pv 8)) (aL tx.RIGHT) (fun _ _=>rfl)) (pv 7))))).pt) (ak (FH 6 nd (fk K (pv 8)) ir)) a8) (af (bC (yN (uU (cY K (aO di (fk K (pv 8)) (pv 5))) (rB (cY K (aO di (cu K (fk K (pv 8)) (aL tx.LEFT) (fun _ _=>rfl)) (pv 6))))).pt) (ak (FH 7 nd (fk K (pv 8)) ir)) a8) (ak (bC (cY K (aO di (pv 6) (pv 7))) (ak (aN (pv 8))) a8))))) (af (du 9 nd (r8 (aa (pv 6) (aa (pv 7) aj)))) (af (du 10 nd (r8 (aa (cf mL tx.clT hr2 bq (pv 0) (aa (aL tx.LEFT) (aa (pv 1) (aa (pv 9) aj)))) (aa (cf mL tx.clT hr2 bq (pv 0) (aa (aL tx.RIGHT) (aa (pv 2) (aa (pv 9) aj)))) aj)))) (ak (aN (cf mA tx.clT hr L.passes (pv 0) (aa (pv 10) (aa (pv 9) aj))))))))))))),?_⟩;refine sq (fH .c ?_);dsimp only;refine sq (t7 (xs:=ls) (f:=T.at) yv (fun i σ H'=>∃v,σ=[some (.ref T.tb),some (.ref l),some (.ref r),some (iN (aT T.bit ((ls.take i).flatMap (T.ge true)))),v,none,none,none,none,none,none]/\H'=H) (aV.of hl) ⟨none,rfl,rfl⟩ (fun i σ H' _⟨_,_,e⟩=>by rw[e];exact aV.of hl) ?_ ?_)
  ·rintro i x σ H' hx ⟨v,rfl,rfl⟩;refine yX (mD (d:=true) tx t (hls x (List.mem_of_getElem? hx)) yv .c) ⟨some (T.at x),?_,rfl⟩;rw[vJ,fI,a7 hx,List.flatMap_append,List.flatMap_singleton];rfl
  rintro σ H' ⟨v4,rfl,rfl⟩;rw[List.take_length];dsimp only;refine sq (fH .c ?_);dsimp only;refine sq (t7 (xs:=rs) (f:=T.at) yv (fun i σ H2=>∃v,σ=[some (.ref T.tb),some (.ref l),some (.ref r),some (iN (aT T.bit (ls.flatMap (T.ge true)))),v,some (iN (aT T.bit ((rs.take i).flatMap (T.ge false)))),none,none,none,none,none]/\H2=H') (aV.of hrr) ⟨v4,rfl,rfl⟩ (fun i σ H' _⟨_,_,e⟩=>by rw[e];exact aV.of hrr) ?_ ?_)
  ·rintro i x σ H2 hx ⟨v,rfl,rfl⟩;refine yX (mD (d:=false) tx t (hrs x (List.mem_of_getElem? hx)) yv .c) ⟨some (T.at x),?_,rfl⟩;rw[vJ,fI,a7 hx,List.flatMap_append,List.flatMap_singleton];rfl
  rintro σ H2 ⟨v4',rfl,rfl⟩;rw[List.take_length];dsimp only;refine sq (fH .c ?_);dsimp only;refine sq (fH .c ?_);dsimp only;have inU:∀x∈ls.flatMap (T.ge true),x∈T.gs:=fun x hx=>let⟨y,hy,h⟩:=List.mem_flatMap.mp hx;(bJ.mp h).1;have inO:∀x∈rs.flatMap (T.ge false),x∈T.gs:=fun x hx=>let⟨y,hy,h⟩:=List.mem_flatMap.mp hx;(bJ.mp h).1;have inF:∀{j:Nat}{p:ae->Bool},∀x∈(T.gs.take j).filter p,x∈T.gs:=fun x hx=>List.mem_of_mem_take (List.mem_filter.mp hx).1;refine sq (t7 (a:=T.pl) (xs:=T.gs) (f:=T.at) (d7 tx t yv) (fun j σ H3=>∃v8,σ=fS T l r (aT T.bit (ls.flatMap (T.ge true))) v4' (aT T.bit (rs.flatMap (T.ge false))) (aT T.bit ((T.gs.take j).filter fun x=>bB (le (.mk ls rs) x))) (aT T.bit ((T.gs.take j).filter fun x=>bB (le x (.mk ls rs)))) v8/\H2=H3/\∀x∈T.gs.take j,¬(le (.mk ls rs) x/\le x (.mk ls rs))) (aV.of t.lst) ⟨none,rfl,rfl,fun x hx=>by simp at hx⟩ (fun i σ H' _⟨_,_,e,_⟩=>by rw[<-e];exact aV.of t.lst) ?_ ?_)
  ·rintro j p σ H3 hp ⟨v8,rfl,rfl,none_yet⟩;have hpm:=List.mem_of_getElem? hp;have esp:=sE hp;have up:=DL t.ok esp (ls:=ls) (rs:=rs);have down:=Bz t.ok esp (ls:=ls) (rs:=rs);have tk:=a7 hp;have a1:(Builtin.bitAnd ((2^T.bit p:Nat):Int) ((aT T.bit (ls.flatMap (T.ge true)):Nat):Int) !=0)=bB (∃l∈ls,le p l):=cz ((dh t.ok.inj hpm inU).trans (Iff.trans ⟨fun h=>let⟨y,hy,q⟩:=List.mem_flatMap.mp h;⟨y,hy,(bJ.mp q).2⟩,fun⟨y,hy,q⟩=>List.mem_flatMap.mpr ⟨y,hy,bJ.mpr ⟨hpm,q⟩⟩⟩ bu.symm));have a2:(Builtin.bitAnd ((aT T.bit p.right:Nat):Int) ((aT T.bit ((T.gs.take j).filter fun x=>bB (le x (.mk ls rs))):Nat):Int) !=0)=bB (∃w∈p.right,w∈T.gs.take j/\le w (.mk ls rs)):=cz ((kF t.ok.inj (t.ok.opts p hpm true) inF).trans (Iff.trans ⟨fun⟨y,hy,q⟩=>⟨y,hy,dk.mp q⟩,fun⟨y,hy,q⟩=>⟨y,hy,dk.mpr q⟩⟩ bu.symm));have a3:(Builtin.bitAnd ((2^T.bit p:Nat):Int) ((aT T.bit (rs.flatMap (T.ge false)):Nat):Int) !=0)=bB (∃r∈rs,le r p):=cz ((dh t.ok.inj hpm inO).trans (Iff.trans ⟨fun h=>let⟨y,hy,q⟩:=List.mem_flatMap.mp h;⟨y,hy,(bJ.mp q).2⟩,fun⟨y,hy,q⟩=>List.mem_flatMap.mpr ⟨y,hy,bJ.mpr ⟨hpm,q⟩⟩⟩ bu.symm));have a4:(Builtin.bitAnd ((aT T.bit p.left:Nat):Int) ((aT T.bit ((T.gs.take (j+1)).filter fun x=>bB (le (.mk ls rs) x)):Nat):Int) !=0)=bB (∃u∈p.left,u∈T.gs.take j/\le (.mk ls rs) u):=cz ((kF t.ok.inj (t.ok.opts p hpm false) inF).trans (Iff.trans ⟨fun⟨y,hy,q⟩=>⟨y,hy,t.ok.ahead esp (d:=false) hy,(dk.mp q).2⟩,fun⟨y,hy,q⟩=>⟨y,hy,dk.mpr ⟨by rw[tk];exact List.mem_append.mpr (.inl q.1),q.2⟩⟩⟩ bu.symm))
   have third:∀D:bN,D.rt=Q->(∀σ H3,(∃v8,σ=fS T l r (aT T.bit (ls.flatMap (T.ge true))) v4' (aT T.bit (rs.flatMap (T.ge false))) (aT T.bit ((T.gs.take (j+1)).filter fun x=>bB (le (.mk ls rs) x))) (aT T.bit ((T.gs.take (j+1)).filter fun x=>bB (le x (.mk ls rs)))) v8/\H2=H3/\∀x∈T.gs.take (j+1),¬(le (.mk ls rs) x/\le x (.mk ls rs)))->D.nx σ H3)->va (fun σ H Q=>fB (n9 fun i j=>.int (Builtin.bitAnd i j)) (aZ 6) (aZ 7) σ H fun x H'=>∃k,vh K x H' k/\Q k H') (ke (aZ 8)) cO D (fS T l r (aT T.bit (ls.flatMap (T.ge true))) v4' (aT T.bit (rs.flatMap (T.ge false))) (aT T.bit ((T.gs.take (j+1)).filter fun x=>bB (le (.mk ls rs) x))) (aT T.bit ((T.gs.take (j+1)).filter fun x=>bB (le x (.mk ls rs)))) (some (T.at p))) H2:=by
    intro D hD hn
    have a5:(Builtin.bitAnd ((aT T.bit ((T.gs.take (j+1)).filter fun x=>bB (le (.mk ls rs) x)):Nat):Int) ((aT T.bit ((T.gs.take (j+1)).filter fun x=>bB (le x (.mk ls rs))):Nat):Int) !=0)=bB (le (.mk ls rs) p/\le p (.mk ls rs)):=by
     have key:(∃x∈(T.gs.take (j+1)).filter (fun x=>bB (le (.mk ls rs) x)),x∈(T.gs.take (j+1)).filter fun x=>bB (le x (.mk ls rs)))↔(le (.mk ls rs) p/\le p (.mk ls rs)):=by
      constructor
      ·rintro⟨y,hy,q⟩;have h1:=dk.mp hy;have h2:=dk.mp q;rw[tk,List.mem_append,List.mem_singleton]at h1;rcases h1.1 with h|h
       ·exact absurd ⟨h1.2,h2.2⟩ (none_yet y h)
       ·rw[<-h];exact⟨h1.2,h2.2⟩
      ·intro h;have:p∈T.gs.take (j+1):=by rw[tk];exact List.mem_append.mpr (.inr (List.mem_singleton.mpr rfl))
       exact⟨p,dk.mpr ⟨this,h.1⟩,dk.mpr ⟨this,h.2⟩⟩
     exact cz ((kF t.ok.inj inF inF).trans (key.trans bu.symm))
    refine iD (Yt.n (aD.i0 yv yv)) a5 (fun hb=>?_) (fun hb=>?_)
    ·have hb:=bu.mp hb;have e:=DT t.ok hpm hb.1 hb.2;refine iG yv ?_;rw[hD,e];exact mk1 T H2 (.refl t) (e▸hpm)
    ·refine hn _ _ ⟨some (T.at p),rfl,rfl,fun x hx=>?_⟩;rw[tk,List.mem_append,List.mem_singleton]at hx;rcases hx with h|h
     ·exact none_yet x h
     ·rw[h];intro q;rw[i5 q]at hb;cases hb
   have second:∀D:bN,(∀σ H3,σ=(fS T l r (aT T.bit (ls.flatMap (T.ge true))) v4' (aT T.bit (rs.flatMap (T.ge false))) (aT T.bit ((T.gs.take (j+1)).filter fun x=>bB (le (.mk ls rs) x))) (aT T.bit ((T.gs.take (j+1)).filter fun x=>bB (le x (.mk ls rs)))) (some (T.at p)))->H3=H2->D.nx σ H3)->va (FE (Hj (fun σ H Q=>fB (n9 fun i j=>.int (Builtin.bitAnd i j)) (dO K (aZ 8) "bit") (aZ 5) σ H fun x H'=>∃k,vh K x H' k/\Q k H') (fun σ H Q=>fB (n9 fun i j=>.int (Builtin.bitAnd i j)) (fB (vY K) (dO K (aZ 8) "row_bits") (tC (.int 0))) (aZ 6) σ H fun x H'=>∃k,vh K x H' k/\Q k H'))) (DF 7 (dO K (aZ 8) "bit") (n9 fun i j=>.int (Builtin.bitOr i j))) cO D (fS T l r (aT T.bit (ls.flatMap (T.ge true))) v4' (aT T.bit (rs.flatMap (T.ge false))) (aT T.bit ((T.gs.take (j+1)).filter fun x=>bB (le (.mk ls rs) x))) (aT T.bit ((T.gs.take j).filter fun x=>bB (le x (.mk ls rs)))) (some (T.at p))) H2:=by
    intro D th;refine iD (b':=bB (le p (.mk ls rs))) (Yt.not (Yt.or (Yt.n (aD.i0 (b_ tx t hpm yv) yv)) fun _=>Yt.n (aD.i0 (jN (d:=false) tx t hpm yv .c) yv))) ?_ (fun hb=>?_) (fun hb=>?_)
    ·rw[qo,a3,a4];refine Bool.eq_iff_iff.mpr ?_;rw[Bool.not_eq_true',Bool.or_eq_false_iff,<-Bool.not_eq_true,<-Bool.not_eq_true,bu,bu,bu,down]
    ·refine yX (b_ tx t hpm yv) (th _ _ ?_ rfl);rw[vJ,lT,tk,ni (p:=fun x=>bB (le x (.mk ls rs))) hb];rfl
    ·refine th _ _ ?_ rfl;rw[tk,nu (p:=fun x=>bB (le x (.mk ls rs))) hb]
   refine sq (iD (b':=bB (le (.mk ls rs) p)) (Yt.not (Yt.or (Yt.n (aD.i0 (b_ tx t hpm yv) yv)) fun _=>Yt.n (aD.i0 (jN (d:=true) tx t hpm yv .c) yv))) ?_ (fun hb=>?_) (fun hb=>?_))
   ·rw[qf,a1,a2];refine Bool.eq_iff_iff.mpr ?_;rw[Bool.not_eq_true',Bool.or_eq_false_iff,<-Bool.not_eq_true,<-Bool.not_eq_true,bu,bu,bu,up]
   ·refine yX (b_ tx t hpm yv) ?_;have e:(([some (V.ref T.tb),some (.ref l),some (.ref r),some (iN (aT T.bit (ls.flatMap (T.ge true)))),v4',some (iN (aT T.bit (rs.flatMap (T.ge false)))),some (iN (aT T.bit ((T.gs.take j).filter fun x=>bB (le (.mk ls rs) x)))),some (iN (aT T.bit ((T.gs.take j).filter fun x=>bB (le x (.mk ls rs))))),v8,none,none]:St).set 8 (some (T.at p))).set 6 (some (.int (Builtin.bitOr ((aT T.bit ((T.gs.take j).filter fun x=>bB (le (.mk ls rs) x)):Nat):Int) ((2^T.bit p:Nat):Int)))) =fS T l r (aT T.bit (ls.flatMap (T.ge true))) v4' (aT T.bit (rs.flatMap (T.ge false))) (aT T.bit ((T.gs.take (j+1)).filter fun x=>bB (le (.mk ls rs) x))) (aT T.bit ((T.gs.take j).filter fun x=>bB (le x (.mk ls rs)))) (some (T.at p)):=by rw[vJ,lT,tk,ni (p:=fun x=>bB (le (.mk ls rs) x)) hb];rfl
    rw[e];exact sq (second _ fun σ H3 e1 e2=>by rw[e1,e2];exact third _ rfl fun σ H3 h=>h)
   ·have e:(([some (V.ref T.tb),some (.ref l),some (.ref r),some (iN (aT T.bit (ls.flatMap (T.ge true)))),v4',some (iN (aT T.bit (rs.flatMap (T.ge false)))),some (iN (aT T.bit ((T.gs.take j).filter fun x=>bB (le (.mk ls rs) x)))),some (iN (aT T.bit ((T.gs.take j).filter fun x=>bB (le x (.mk ls rs))))),v8,none,none]:St).set 8 (some (T.at p))) =fS T l r (aT T.bit (ls.flatMap (T.ge true))) v4' (aT T.bit (rs.flatMap (T.ge false))) (aT T.bit ((T.gs.take (j+1)).filter fun x=>bB (le (.mk ls rs) x))) (aT T.bit ((T.gs.take j).filter fun x=>bB (le x (.mk ls rs)))) (some (T.at p)):=by rw[tk,nu (p:=fun x=>bB (le (.mk ls rs) x)) hb];rfl
    show ve _ _ _ _ _;rw[e];exact sq (second _ fun σ H3 e1 e2=>by rw[e1,e2];exact third _ rfl fun σ H3 h=>h)
  ·rintro σ H3 ⟨v8,rfl,rfl,nobody⟩;rw[List.take_length]at nobody⊢;dsimp only;refine sq (FV (.cons yv (.one yv)) (by show 2<=sizeLine;decide) fun gd hgd=>?_);have s0:aB H2 (aI H2 gd (.tup [iN (aT T.bit (T.ge false (.mk ls rs))),iN (aT T.bit (T.ge true (.mk ls rs)))])):=aW hgd;dsimp only;have ttb:∀{H4:Hp},aB H2 H4->H4 T.tb=some (.ins c.T T.dx (tf T.most T.pl (aT T.bit T.gs) (optCount T.gs) T.sd)):=fun s=>s _ _ t.tab;refine sq (DN (lF yv (ttb s0) rfl (.cons .c (.cons yv (.one yv))) ⟨T,false,l,gd,.mk ls rs,rfl,t.same s0,s0 _ _ hl,hls,ah,fun Bl ll H4 Il hll s4 ell=>?_⟩));have s4':=s0.trans s4;refine lF yv (ttb s4') rfl (.cons .c (.cons yv (.one yv))) ⟨T,true,r,gd,.mk ls rs,rfl,t.same s4',s4' _ _ hrr,hrs,s4 _ _ ah,fun Br rl H5 Ir hrl s5 erl=>⟨by show 2<=sizeLine;decide,fun rw hrw=>?_⟩⟩;have s5':=s4'.trans s5;have s6:=iZ s5' (o:=HO.tup [.ref ll,.ref rl]) hrw;have eF:=Bx t.ok Il Ir;have eL:(aq (.mk ls rs)).left=cV T.gs false Bl:=by rw[<-eF];rfl
   have eR:(aq (.mk ls rs)).right=cV T.gs true Br:=by rw[<-eF];rfl
   have ev:=fE (.mk ls rs)
   have ge:∀d,T.ge d (aq (.mk ls rs))=T.ge d (.mk ls rs):=by
    intro d;refine List.filter_congr fun y _=>Dj ?_;cases d
    ·exact⟨fun h=>le_trans ev.2 h,fun h=>le_trans ev.1 h⟩
    ·exact⟨fun h=>le_trans h ev.1,fun h=>le_trans h ev.2⟩
   have st6:∀{b:Addr}{o:HO},H5 b=some o->aI H5 rw (.tup [.ref ll,.ref rl]) b=some o:=fun e=>by rw[ai (au e hrw)];exact e
   have inL:∀{d:Bool}{B:List ae},∀x∈cV T.gs d B,x∈T.gs:=fun x hx=>(iP.mp hx).1;dsimp only;refine qU yv (ttb s6) rfl (.cons yv (.one yv)) ⟨T,rw,ll,rl,gd,aq (.mk ls rs),rfl,t.same s6,ah,?_,?_,?_,?_,?_,?_,cX _,?_,?_,?_⟩
   ·rw[eL];exact st6 (s5 _ _ ell)
   ·rw[eR];exact st6 erl
   ·rw[ge,ge];exact st6 (s5 _ _ (s4 _ _ ah))
   ·intro h;have e:=(s0.free hll);rw[h,t.lst]at e;cases e
   ·intro h;have e:=(s4'.free hrl);rw[h,t.lst]at e;cases e
   ·intro d x hx;cases d
    ·rw[qo,eL]at hx;exact inL x hx
    ·rw[qf,eR]at hx;exact inL x hx
   ·intro h;exact nobody _ h ⟨ev.2,ev.1⟩
   ·intro T' H' st hm;refine mk1 T' H' ⟨st.tab,st.ext,fun b o e n=>st.kp b o (s6 b o e) n,fun b h=>(st.own b h).imp id s6.free,fun b h=>?_,fun b h=>s6.free (st.live b h)⟩ hm;rcases st.all b h with h|h|h|h|h
    ·exact .inl h
    ·exact .inr (.inl (s6.free h))
    ·rw[h];exact .inr (.inl (s5'.free hrw))
    ·rw[h];exact .inr (.inl (s0.free hll))
    ·rw[h];exact .inr (.inl (s4'.free hrl))
   ·intro T' H' st hf;exact mk2 T' H' (.after t s6 st) hf
end
section
variable{K:W.Frag}{σ:St}{H:Hp}{D:bN}{tb:TS}{d:Addr}{o:Obj}{kvs:List (dU×V)}
theorem CC{td:TE}{p q:Nat}(hi:aD td σ H (.ref d))(e:H d=some (.frz o (.dK kvs)))(Pv:Nat->St->Hp->Prop)(h0:Pv 0 σ H)(hl:∀i σ H,Pv i σ H->H d=some (.frz o (.dK kvs))) (hs:∀i k v σ H,kvs[i]?=some (k,v)->Pv i σ H->∀U,H U=none->tb { D with nx:=Pv (i+1),ct:=Pv (i+1),bk:=D.nx } ((σ.set p (some (kV k))).set q (some v)) (aI H U (.tup [kV k,v]))) (hd:∀σ H,Pv kvs.length σ H->D.nx σ H) :vb (C0 td) (Fu K 2 (xk (bw p) (xk (bw q) Fo))) tb D σ H:=by
 refine hi _ ⟨d,o,kvs,rfl,e,fun i m σ H=>Pv i σ H/\m=kvs.length-i/\i<=kvs.length,⟨_,h0,rfl,Nat.zero_le _⟩,fun i m σ H⟨p,em,hle⟩=>?_⟩;have hL:=hl i σ H p;by_cases c:i<kvs.length
 ·right;refine⟨⟨hL,c⟩,Pv (i+1),fun σ' H' q=>⟨m-1,by omega,q,by omega,by omega⟩,?_⟩;rintro y H' ⟨U,k,v,hkv,rfl,hU,rfl⟩;exact⟨U,_,rfl,i6.of ah,rfl,_,_,rfl,_,_,rfl,rfl,hs i k v σ H hkv p U hU⟩
 ·left;have:i=kvs.length:=by omega
  subst this;exact⟨⟨hL,Nat.le_refl _⟩,hd σ H p⟩
end
def yz(c:Cl):Sp:=fun vs H Q _=>∃(T:Tb)(pl:Addr)(u o:Nat)(Bs:List ae),vs=[.ref T.tb,iN (aT T.bit Bs)]/\gm T.gs T.bit/\(∀x∈Bs,x∈T.gs)/\H T.tb=some (.ins c.T T.dx (tf T.most pl u o T.sd))/\H T.sd=some (.dK T.kvs)/\T.kvs.length<=sizeLine/\(∀z∈T.gs,H (T.pa z).obj=some (.ins c.P (T.pa z).dct (pf (2^T.bit z) (T.pa z).rw (T.pa z).rb (T.pa z).ag (born z) (aT T.bit (ao z)))))/\(∀kv∈T.kvs,∃x∈T.gs,∃y∈T.gs,∃z∈T.gs,kv=(T.key x y,T.at z)/\z=aq (bt x y))/\(T.kvs.map (·.1)).Nodup/\∀p kvs' H',H p=none->aB H H'->H' p=some (.dK kvs')->(∀kv∈kvs',∃x∈Bs,∃y∈Bs,∃z∈Bs,kv=(T.key x y,T.at z)/\z=aq (bt x y))->(kvs'.map (·.1)).Nodup->Q (.ref p) H'
theorem EW{bit:ae->Nat}{Bs:List ae}{x:ae}{n:Nat}(h:(n|||aT bit Bs)=aT bit Bs)(hx:n.testBit (bit x)=true):∃y∈Bs,bit y=bit x:=by
 have:(n|||aT bit Bs).testBit (bit x)=true:=by rw[Nat.testBit_or,hx];rfl
 rw[h]at this;exact eX.mp this
section
variable{P:Program}{w:World}{K:W.Frag}{mg:Str->Option Value}{base:Heap}{c:Cl}
theorem sT {f:Addr} {fd:FuncData} (F:dB K "sums_within" "Table.sums_within" dX f fd) (tx:dc K mg c):bj P w K mg base (cH P w) 1 f fd ["self","bits"] (yz c):=by
 refine F.ok0 gz (fun vs H Q E h=>?_) (fun cdv A outer s H vs Q E hr h=>?_)
 ·obtain⟨T,pl,u,o,Bs,rfl,_⟩:=h;rfl
 ·obtain⟨T,pl,u,o,Bs,rfl,ok,hB,htb,hsd,hz,hob,hK,hN,q⟩:=h;have nd:=gz.nd;have hu:=nj hr;refine⟨_,af (du 2 nd ig) (af (DP (cg PassesOwn.never rfl (CB (fk K (pv 0))) (ze rfl (jg (jc 3 nd) (jg (jc 4 nd) u5))) (ak (bC (aK d5 (aO oo (aO oo (pv 3) (fk K (pv 4))) (pv 1)) (pv 1) (aX _)) (ak (jI hu (pv 2) (pv 3) (pv 4) rfl)) a8)))) (ak (aN (pv 2)))),?_⟩;refine sq (mE fun dp hdp=>?_);dsimp only;have s0:aB H (aI H dp (.dK [])):=aW hdp;refine sq ⟨T.sd,.dK T.kvs,s0 _ _ hsd,trivial,fun od=>?_⟩;have lk:∀{b:Addr}{o:HO},H b=some o->b≠T.sd->aI (aI H dp (.dK [])) T.sd (.frz od (.dK T.kvs)) b=some o:=fun e n=>by rw[ai n];exact s0 _ _ e
  have ndp:dp≠T.sd:=fun h=>by rw[h,hsd]at hdp;cases hdp
  have ntb:T.tb≠T.sd:=cv htb hsd fun h=>by cases h
  refine CC (d:=T.sd) (o:=od) (kvs:=T.kvs) (.fld yv (lk htb ntb) tx.clT tx.sums rfl) ah (fun i σ H'=>∃v3 v4 kvs',σ=[some (.ref T.tb),some (iN (aT T.bit Bs)),some (.ref dp),v3,v4]/\H' T.sd=some (.frz od (.dK T.kvs))/\(∀b o,H b=some o->b≠T.sd->H' b=some o)/\H' dp=some (.dK kvs')/\kvs'.Sublist (T.kvs.take i)/\∀kv∈kvs',∃x∈Bs,∃y∈Bs,∃z∈Bs,kv=(T.key x y,T.at z)/\z=aq (bt x y)) ⟨none,none,[],rfl,ah,fun b o e n=>lk e n,by rw[ai ndp,ah],List.nil_sublist _,fun _ h=>by cases h⟩ (fun i σ H'⟨_,_,_,_,e,_⟩=>e) ?_ ?_
  ·rintro i k v σ H' hkv ⟨v3,v4,kvs',rfl,e1,e2,e3,sub,mem⟩ U hU;have hil:=(List.getElem?_eq_some_iff.mp hkv).1;obtain⟨x,hx,y,hy,z,hzg,ekv,ez⟩:=hK _ (List.mem_of_getElem? hkv);injection ekv with ek ev
   subst ek ev;have e2U:∀b o,H b=some o->b≠T.sd->aI H' U (.tup [kV (T.key x y),T.at z]) b=some o:=fun b o e n=>by rw[ai (au (e2 b o e n) hU)];exact e2 b o e n
   have ob:=e2U _ _ (hob z hzg) (cv (hob z hzg) hsd fun h=>by cases h);have snoc:T.kvs.take (i+1)=T.kvs.take i++[(T.key x y,T.at z)]:=a7 hkv;refine iD (b':=decide ((2^T.bit x|||2^T.bit y)|||2^T.bit z|||aT T.bit Bs=aT T.bit Bs)) (Yt.b (aD.eq (aD.i0 (aD.i0 yv (.fld yv ob tx.clP tx.bit wI)) yv) yv)) ?_ (fun hb=>?_) (fun hb=>?_)
   ·rw[vJ,vJ];exact decide_eq_decide.mpr Int.ofNat_inj
   ·have hb:=of_decide_eq_true hb;have inB:∀a∈T.gs,((2^T.bit x|||2^T.bit y)|||2^T.bit z).testBit (T.bit a)=true->a∈Bs:=by intro a ha h;obtain⟨b,hb',e⟩:=EW hb h;rw[<-ok.inj b (hB b hb') a ha e];exact hb'
    have nk:bQ kvs' (T.key x y)=none:=by
     cases h:bQ kvs' (T.key x y)with
     |none=>rfl
     |some v=>
      exfalso;have h1:=Ec h;have h2:T.key x y∈(T.kvs.take i).map (·.1):=(sub.map _).subset h1;have h3:(T.kvs.take (i+1)).map (·.1)=(T.kvs.take i).map (·.1)++[T.key x y]:=by rw[snoc,List.map_append];rfl
      have h4:((T.kvs.take (i+1)).map (·.1)).Nodup:=((List.take_sublist _ _).map _).nodup hN;rw[h3,List.nodup_append]at h4;exact h4.2.2 _ h2 _ (by simp) rfl
    refine Av (k:=T.key x y) (kvs:=kvs') yv yv yv (by rw[ai (au e3 hU)];exact e3) ?_ ?_
    ·have:=sub.length_le;rw[List.length_take]at this;omega
    ·rw[sG _ nk];refine⟨_,_,_,rfl,?_,fun b o e n=>?_,ah,?_,fun kv hkv=>?_⟩
     ·rw[ai (Ne.symm ndp),ai (au e1 hU)];exact e1
     ·rw[ai (au e hdp)];exact e2U b o e n
     ·rw[snoc];exact List.Sublist.append sub (List.Sublist.refl _)
     ·rcases List.mem_append.mp hkv with h|h
      ·exact mem kv h
      ·rw[List.mem_singleton.mp h];refine⟨x,inB x hx ?_,y,inB y hy ?_,z,inB z hzg ?_,rfl,ez⟩
       ·rw[Nat.testBit_or,Nat.testBit_or,(pz _ _).mpr rfl];rfl
       ·rw[Nat.testBit_or,Nat.testBit_or,(pz (T.bit y) _).mpr rfl,Bool.or_true];rfl
       ·rw[Nat.testBit_or,(pz (T.bit z) _).mpr rfl,Bool.or_true]
   ·refine⟨_,_,kvs',rfl,?_,e2U,?_,?_,mem⟩
    ·rw[ai (au e1 hU)];exact e1
    ·rw[ai (au e3 hU)];exact e3
    ·rw[snoc];exact sub.trans (List.sublist_append_left _ _)
  ·rintro σ H' ⟨v3,v4,kvs',rfl,e1,e2,e3,sub,mem⟩;refine⟨e1,?_⟩;dsimp only;refine iG yv (q dp kvs' _ hdp (fun b o e=>?_) (by rw[ai ndp];exact e3) mem ?_)
   ·by_cases h:b=T.sd
    ·rw[h,ah];rw[h,hsd]at e;exact e
    ·rw[ai h];exact e2 b o e h
   ·rw[List.take_length]at sub;exact(sub.map _).nodup hN
end
theorem jl{α β:Type}{f:α->List β}{n:Nat}:∀{l:List α},(∀x∈l,(f x).length<=n)->(l.flatMap f).length<=l.length*n
 |[],_=>by simp
 |x::l,h=>by rw[List.flatMap_cons,List.length_append,List.length_cons,Nat.succ_mul];have:=jl (l:=l) fun y hy=>h y (List.mem_cons_of_mem _ hy);have:=h x List.mem_cons_self;omega
theorem bX.kvs_len{CP CT:Addr}{H:Hp}{T:Tb}{m:Bool->ae->Nat}(t:bX CP CT H T m):T.kvs.length<=9216:=by
 have h:=aC t.sumN (P:=T.gs.flatMap fun x=>T.gs.map (T.key x)) fun k hk=>by obtain⟨kv,hkv,rfl⟩:=List.mem_map.mp hk;obtain⟨x,hx,y,hy,z,hz,rfl,_⟩:=t.sumK kv hkv;exact List.mem_flatMap.mpr ⟨x,hx,List.mem_map.mpr ⟨y,hy,rfl⟩⟩
 rw[List.length_map]at h;have:=jl (n:=96) (l:=T.gs) (f:=fun x=>T.gs.map (T.key x)) fun x _=>by rw[List.length_map];exact t.len
 have:=t.len;have:T.gs.length*96<=96*96:=Nat.mul_le_mul_right _ this;omega
theorem EV{K:W.Frag}{tl ta:TE}{f:Str}{D:bN}{σ:St}{H:Hp}(h:tl σ H fun v H1=>∃(a:Addr) (ns:List Int),[v]=[V.ref a]/\aV K H1 a (ns.map V.int)/\ta σ H1 fun x H2=>∃a C dx fs,x=.ref a/\H2 a=some (.ins C dx fs)/\qH K C/\bF K C f/\fs.length<1000/\D.nx σ (aI H2 a (.ins C dx (cG f (.int ns.sum) fs)))):wG K ta (Ab (Fv K) (a_ tl ck)) f D σ H:=h
theorem GJ{α:Type}{K:W.Frag}{tl ta:TE}{tt:TT}{te:TE}{i:Nat}{f:Str}{D:bN}{σ:St}{H:Hp}{a b C dx:Addr}{fs:List (Str×V)}{xs:List α}{g e:α->V}{p:α->Bool}(hi:aD tl σ H (.ref a))(hl:aV K H a (xs.map g))(hz:xs.length<=sizeLine) (ht:∀x∈xs,∀H',aB H H'->n_ tt ((b8 σ [i]).set i (some (g x))) H' (p x)) (he:∀x∈xs,p x=true->∀H',aB H H'->BM te ((b8 σ [i]).set i (some (g x))) H' (e x)) (hb:∀H',aB H H'->aD ta σ H' (.ref b)) (eb:H b=some (.ins C dx fs)) (c:qH K C) (n:bF K C f) (l:fs.length<1000) (hd:∀d H',H d=none->aB H H'->H' d=some (.lst ((xs.filter p).map e))->D.nx σ (aI H' b (.ins C dx (cG f (.ref d) fs)))):wG K ta (Ah (kX K tl) (bw i) tt te [i]) f D σ H:=jk hi hl hz ht he fun d H' h1 s h2=>hb H' s _ ⟨b,C,dx,fs,rfl,s _ _ eb,c,n,l,hd d H' h1 s h2⟩
theorem wz:∀l:List ae,(l.map fun x=>((optC x:Nat):Int)).sum=((optCount l:Nat):Int)
 |[]=>rfl
 |x::l=>by rw[List.map_cons,List.sum_cons,wz l,fP];rfl
theorem uN{CP:Addr}{H:Hp}{T:Tb}{m m':Bool->ae->Nat}(t:∀x∈T.gs,lI CP H T.bit T.pa x (m false x) (m true x))(agi:∀x∈T.gs,∀y∈T.gs,(T.pa x).ag=(T.pa y).ag->x=y){x:ae}(hx:x∈T.gs){m1 m2:Nat} (e:∀y∈T.gs,∀d,m' d y=if bB (y=x)=true then(if d then m2 else m1)else m d y):∀y∈T.gs,lI CP (aI H (T.pa x).ag (.lst [iN m1,iN m2])) T.bit T.pa y (m' false y) (m' true y):=by
 have px:=(t x hx).ag;have k:∀{b:Addr}{o:HO},H b=some o->o≠.lst [iN (m false x),iN (m true x)]->aI H (T.pa x).ag (.lst [iN m1,iN m2]) b=some o:=fun e n=>by rw[ai (cv e px n)];exact e
 intro y hy;have p:=t y hy;refine⟨k p.obj (fun h=>by cases h),k p.rw (fun h=>by cases h),k p.ll (gD fun x=>⟨_,rfl⟩),k p.rl (gD fun x=>⟨_,rfl⟩),k p.rb (fun h=>by cases h),?_⟩;rw[e y hy,e y hy];by_cases c:y=x
 ·rw[i5 c,if_pos rfl,if_pos rfl,c,ah];rfl
 ·rw[n4 c,if_neg (by decide),if_neg (by decide),ai fun h=>c (agi y hy x hx h)];exact p.ag
structure Dk(CP CT:Addr)(Bs:List ae)(T:Tb)(H:Hp)(T':Tb)(H':Hp):Prop where
 tab:bP CP CT H' T'
 tb:T'.tb=T.tb
 most:T'.most=T.most
 gs:T'.gs=T.gs.filter fun x=>bB (x∈Bs)
 bit:T'.bit=T.bit
 pa:T'.pa=T.pa
 kp:Kp (tK T) H H'
 own:∀b,tK T' b->tK T b\/H b=none
 all:∀b,cx T' b->cx T b\/H b=none
 live:∀b,H' b=none->H b=none
def wC(c:Cl):Sp:=fun vs H Q _=>∃(T:Tb)(Bs:List ae),vs=[.ref T.tb,iN (aT T.bit Bs)]/\bP c.P c.T H T/\(∀x∈Bs,x∈T.gs)/\(∀x∈Bs,∀d,∀y∈opt d x,y∈Bs)/\∀T' H',Dk c.P c.T Bs T H T' H'->Q .non H'
section
variable{P:Program}{w:World}{K:W.Frag}{mg:Str->Option Value}{base:Heap}{c:Cl}
open Classical in
set_option maxHeartbeats 4000000 in
theorem vq {f:Addr} {fd:FuncData} (F:dB K "keep_only" "Table.keep_only" eT f fd) (tx:dc K mg c) (mC:iV P w K mg base 1 c.P "option_count" ["self"] (oZ c)) (mW:iV P w K mg base 1 c.T "sums_within" ["self","bits"] (yz c)) :
  bj P w K mg base (cH P w) 2 f fd ["self","bits"] (wC c):=by
 refine F.ok0 iJ (fun vs H Q E h=>?_) (fun cdv A outer s H vs Q E hr h=>?_)
 ·obtain⟨T,Bs,rfl,_⟩:=h;rfl
 ·obtain⟨T,Bs,rfl,t,hB,hC,q⟩:=h
  have nd:=iJ.nd
  refine⟨_,af (bC (aK d5 (pv 1) (fk K (pv 0)) (aX _)) (ak Eb) a8)
   (af (cE (pv 0) (sO (own:=[("part",2)]) rfl nd (oK K (fk K (pv 0))) (bD rfl) (fun _ _ _ _ _=>jc 2 nd) (fun _ _ _ _ _=>l_ (cY K (aO di (fk K (pv 2)) (pv 1)))) (fun _ _ _ _ _=>pv 2)) rfl)
   (af (cE (pv 0) (pv 1) rfl)
   (af (cE (pv 0) (aJ (B5 rfl) (by rfl) tx.sum uC (aa (sO (own:=[("part",2)]) rfl nd (oK K (fk K (pv 0))) (bD rfl) (fun _ _ _ _ _=>jc 2 nd) (fun _ _ _ _ _=>c_) (fun _ _ _ _ _=>i4 mC tx.clP hr bq (pv 2))) aj)) rfl)
   (af (cg PassesOwn.never rfl (oK K (fk K (pv 0))) (jc 2 nd)
    (af (rj (fk K (pv 2)) (aL tx.LEFT) oH (pv 1) zW de) (ak (rj (fk K (pv 2)) (aL tx.RIGHT) oH (pv 1) zW de))))
   (ak (cE (pv 0) (cf mW tx.clT hr bq (pv 0) (aa (pv 1) aj)) rfl)))))),?_⟩
  refine sq (iD (b':=decide (aT T.bit Bs=aT T.bit T.gs)) (Yt.b (aD.eq yv (zF tx t yv))) (decide_eq_decide.mpr Int.ofNat_inj) (fun hb=>?_) (fun hb=>?_))
  ·have e:=of_decide_eq_true hb
   have same:=wK t.ok.inj hB (fun _ h=>h) e
   refine q T H ⟨t,rfl,rfl,?_,rfl,rfl,fun _ _ e _=>e,fun _ h=>.inl h,fun _ h=>.inl h,fun _ h=>h⟩
   refine(List.filter_eq_self.mpr fun x hx=>i5 ((same x).mpr hx)).symm
  dsimp only[cO]
  refine sq (GJ (xs:=T.gs) (g:=T.at) (e:=T.at) (p:=fun y=>bB (y∈Bs)) (d7 tx t yv) (aV.of t.lst) (mq t) (fun y hy H' s=>?_) (fun y hy _ H' s=>aD.s yv) (fun H' s=>yv) t.tab tx.clT tx.parts pJ (fun pl H1 hpl s1 e1=>?_))
  ·have hb:=cz (p:=bB (y∈Bs)) ((dh t.ok.inj hy hB).trans bu.symm)
   rw[<-hb]
   exact(Yt.n (aD.i0 (b_ tx (t.same s) hy yv) yv)).s
  rw[CU]
  let gs':=T.gs.filter fun x=>bB (x∈Bs)
  have mem':∀{x},x∈gs'↔x∈Bs:=fun{x}=>⟨fun h=>(dk.mp h).2,fun h=>dk.mpr ⟨hB x h,h⟩⟩
  have t1:=t.same s1
  have ne_tb:∀{b:Addr}{o:HO},H1 b=some o->o≠.ins c.T T.dx (tf T.most T.pl (aT T.bit T.gs) (optCount T.gs) T.sd)->b≠T.tb:=fun e n=>cv e t1.tab n
  have npl:pl≠T.tb:=ne_tb e1 fun h=>by cases h
  dsimp only
  refine sq (qN yv yv ah tx.clT tx.used_bits pJ ?_)
  rw[Ai,dq]
  dsimp only
  have pl2:∀{o:HO},aI H1 T.tb o pl=some (.lst (gs'.map T.at)):=by intro o;rw[ai npl];exact e1
  refine sq (EV (jk (xs:=gs') (f:=T.at) (e:=fun x=>iN (optC x)) (p:=fun _=>true) (.fld yv ah tx.clT tx.parts rfl) (aV.of pl2) (sC (List.length_filter_le _ _) (mq t)) (fun y hy H' s=>n_.yes) (fun y hy _ H' s=>?_) (fun d H2 hd s2 e2=>?_)))
  ·have hyg:y∈T.gs:=(List.mem_filter.mp hy).1
   have lk:=t1.like hyg
   have ob:=s _ _ (show aI H1 T.tb _ _=_ by rw[ai (ne_tb lk.obj fun h=>by injection h with _ _ h;cases h)];exact lk.obj)
   refine(aD.meth yv ob rfl .nil fun Q r=>⟨T,_,y,_,_,_,_,_,_,(T.pa y).ll,(T.pa y).rl,rfl,⟨ob,s _ _ ?_,s _ _ ?_,s _ _ ?_⟩,r⟩).s
   ·rw[ai (ne_tb lk.rw fun h=>by cases h)];exact lk.rw
   ·rw[ai (ne_tb lk.ll fun h=>by cases h)];exact lk.ll
   ·rw[ai (ne_tb lk.rl fun h=>by cases h)];exact lk.rl
  have esum:(gs'.filter fun _=>true).map (fun x=>iN (optC x))=(gs'.map fun x=>((optC x:Nat):Int)).map V.int:=by rw[bH,List.map_map];rfl
  rw[esum]at e2
  have ent2:=s2 _ _ ah
  refine⟨d,_,rfl,aV.of e2,(yv:aD (aZ 0) _ _ (.ref T.tb)) _ ⟨T.tb,c.T,T.dx,_,rfl,ent2,tx.clT,tx.options_in_all,pJ,?_⟩⟩
  rw[wz,Aw]
  generalize hH3:aI H2 T.tb (.ins c.T T.dx (tf T.most pl (aT T.bit Bs) (optCount gs') T.sd))=H3
  have k3:∀b o,H1 b=some o->b≠T.tb->H3 b=some o:=fun b o e n=>by rw[<-hH3,ai n];exact s2 _ _ (by rw[ai n];exact e)
  have tb3:H3 T.tb=some (.ins c.T T.dx (tf T.most pl (aT T.bit Bs) (optCount gs') T.sd)):=by rw[<-hH3];exact ah
  have k30:∀b o,H b=some o->b≠T.tb->H3 b=some o:=fun b o e n=>k3 b o (s1 _ _ e) n
  have kk:∀{b:Addr}{o:HO},H b=some o->o≠.ins c.T T.dx (tf T.most T.pl (aT T.bit T.gs) (optCount T.gs) T.sd)->H3 b=some o:=fun e n=>k30 _ _ e (cv e t.tab n)
  have p3:∀x∈T.gs,lI c.P H3 T.bit T.pa x (T.m false x) (T.m true x):=fun x hx=>by
   have p:=t.part x hx
   exact⟨kk p.obj (fun h=>by injection h with _ _ h;cases h),kk p.rw (fun h=>by cases h),kk p.ll (fun h=>by cases h),kk p.rl (fun h=>by cases h),kk p.rb (fun h=>by cases h),kk p.ag (fun h=>by cases h)⟩
  have pl3:H3 pl=some (.lst (gs'.map T.at)):=k3 _ _ e1 npl
  let nm:Bool->ae->Nat:=fun d x=>aT T.bit ((T.ge d x).filter fun y=>decide (y∈Bs))
  have hge:∀d,∀x,(T.m d x&&&aT T.bit Bs)=nm d x:=fun d x=>wc t.ok.inj (fun y hy=>(bJ.mp hy).1) hB
  have nAg:∀{b:Addr}{o:HO},H3 b=some o->(∀m1 m2:Nat,o≠.lst [iN m1,iN m2])->¬A3 T b:=by
   rintro b o e n ⟨y,hy,rfl⟩
   rw[(p3 y hy).ag]at e
   cases e
   exact n _ _ rfl
  have ref:∀x,∃p,T.at x=V.ref p:=fun x=>⟨_,rfl⟩
  have nA1:=nAg tb3 fun _ _ h=>by cases h
  have nA2:=nAg pl3 fun _ _=>gD ref
  dsimp only
  refine sq (t7 (a:=pl) (xs:=gs') (f:=T.at) (.fld yv tb3 tx.clT tx.parts rfl) (fun j σ H'=>∃v,σ=[some (.ref T.tb),some (iN (aT T.bit Bs)),v]/\
   (∀x∈T.gs,lI c.P H' T.bit T.pa x (if x∈gs'.take j then nm false x else T.m false x) (if x∈gs'.take j then nm true x else T.m true x))/\Kp (A3 T) H3 H') (aV.of pl3) ⟨none,rfl,fun x hx=>by rw[List.take_zero,if_neg (by simp),if_neg (by simp)];exact p3 x hx,fun _ _ e _=>e⟩ (fun i σ H' _⟨_,_,_,k⟩=>aV.of (k _ _ pl3 nA2)) ?_ ?_)
  ·rintro j y σ H' hy ⟨v,rfl,p4,k4⟩
   have hy':=List.mem_of_getElem? hy
   have hyg:y∈T.gs:=(List.mem_filter.mp hy').1
   have hyj:y∉gs'.take j:=by
    intro h
    obtain⟨l,hl,e⟩:=List.mem_iff_getElem.mp h
    rw[List.length_take]at hl
    have:gs'[l]?=some y:=by rw[<-e,List.getElem_take];exact List.getElem?_eq_getElem _
    have:=wM (t.ok.nodup.filter _) this hy
    omega
   have py:=p4 y hyg
   rw[if_neg hyj,if_neg hyj]at py
   refine sq (Fl (.fld yv py.obj tx.clP tx.as_good iz) .c yv py.ag (x:=((T.m false y:Nat):Int)) rfl rfl ?_)
   rw[Cn,hge]
   have p5:=uN (T:=T) (m:=fun d x=>if x∈gs'.take j then nm d x else T.m d x) (m':=fun d x=>if bB (x=y)=true then(if d then T.m true y else nm false y)else if x∈gs'.take j then nm d x else T.m d x) p4 t.agi hyg (m1:=nm false y) (m2:=T.m true y) fun z hz d=>rfl
   have py5:=p5 y hyg
   rw[i5 (p:=y=y) rfl,if_pos rfl,if_pos rfl,if_neg (by decide),if_pos rfl]at py5
   refine Fl (.fld yv py5.obj tx.clP tx.as_good iz) .c yv py5.ag (x:=((T.m true y:Nat):Int)) rfl rfl ?_
   rw[Cn,hge]
   have p6:=uN (T:=T) (m':=fun d x=>if x∈gs'.take (j+1)then nm d x else T.m d x) (m:=fun d x=>if bB (x=y)=true then(if d then T.m true y else nm false y)else if x∈gs'.take j then nm d x else T.m d x) p5 t.agi hyg (m1:=nm false y) (m2:=nm true y) fun z hz d=>by
    have hj1:z∈gs'.take (j+1)↔z∈gs'.take j\/z=y:=by rw[a7 hy,List.mem_append,List.mem_singleton]
    by_cases c1:z=y
    ·subst c1
     rw[i5 (p:=z=z) rfl,if_pos rfl,if_pos (hj1.mpr (.inr rfl))]
     cases d<;>rfl
    ·simp only[n4 c1]
     by_cases c2:z∈gs'.take j
     ·simp only[c2,hj1.mpr (.inl c2)];rfl
     ·simp only[c2,show ¬z∈gs'.take (j+1)from fun h=>(hj1.mp h).elim c2 c1];rfl
   refine⟨some (T.at y),rfl,p6,fun b o e n=>?_⟩
   have nb:b≠(T.pa y).ag:=fun h=>n ⟨y,hyg,h⟩
   rw[ai nb,ai nb];exact k4 b o e n
  ·rintro σ H4 ⟨v,rfl,p4,k4⟩
   rw[List.take_length]at p4
   have tb4:=k4 _ _ tb3 nA1
   have k40:∀{b:Addr}{o:HO},H b=some o->o≠.ins c.T T.dx (tf T.most T.pl (aT T.bit T.gs) (optCount T.gs) T.sd)->(∀m1 m2:Nat,o≠.lst [iN m1,iN m2])->H4 b=some o:=fun e n n'=>k4 _ _ (kk e n) (nAg (kk e n) n')
   have sd4:H4 T.sd=some (.dK T.kvs):=k40 t.sum (fun h=>by cases h) (fun _ _ h=>by cases h)
   dsimp only
   refine lF yv tb4 rfl (.one yv) ⟨T,pl,_,_,Bs,rfl,t.ok,hB,tb4,sd4,Nat.le_trans t.kvs_len (by decide),fun z hz=>(p4 z hz).obj,t.sumK,t.sumN,fun sd' kvs' H5 hsd' s5 esd' mem sumN'=>(yv:aD (aZ 0) _ _ (.ref T.tb)) _ ⟨T.tb,c.T,T.dx,_,rfl,s5 _ _ tb4,tx.clT,tx.sums,pJ,?_⟩⟩
   rw[Ea]
   let T':Tb:={ T with gs:=gs',pl:=pl,sd:=sd',kvs:=kvs' }
   have nsd:sd'≠T.tb:=fun h=>by rw[h,tb4]at hsd';cases hsd'
   have H5of:∀{b:Addr}{o:HO},H4 b=some o->o≠.ins c.T T.dx (tf T.most pl (aT T.bit Bs) (optCount gs') T.sd)->aI H5 T.tb (.ins c.T T.dx (tf T.most pl (aT T.bit Bs) (optCount gs') sd')) b=some o:=fun e n=>by
    rw[ai (cv e tb4 n)];exact s5 _ _ e
   have okT:gm gs' T.bit:=by
    have:=DM t.ok (S:=fun x=>x∈Bs) (fun x _ hx d y hy=>hC x hx d y hy)
    rw[show(fun x=>@decide (x∈Bs) (propDecidable (x∈Bs)))=fun x=>bB (x∈Bs)from funext fun x=>(r_ _).symm]at this
    exact this
   have eU:aT T.bit gs'=aT T.bit Bs:=f_ fun x=>mem'
   have hm:∀d,∀x,nm d x=T'.m d x:=fun d x=>f_ fun y=>by
    rw[List.mem_filter,decide_eq_true_iff,bJ,bJ]
    show _↔y∈gs'/\_
    rw[mem']
    exact⟨fun h=>⟨h.2,h.1.2⟩,fun h=>⟨⟨hB y h.1,h.2⟩,h.1⟩⟩
   have sub':∀x∈gs',x∈T.gs:=fun x hx=>(List.mem_filter.mp hx).1
   have tab':bP c.P c.T (aI H5 T.tb (.ins c.T T.dx (tf T.most pl (aT T.bit Bs) (optCount gs') sd'))) T':=by
    refine⟨okT,?_,H5of (k4 _ _ pl3 nA2) (fun h=>by cases h),?_,?_,sumN',fun x hx=>?_,fun x hx y hy=>t.agi x (sub' x hx) y (sub' y hy),Nat.le_trans (List.length_filter_le _ _) t.len,Nat.le_trans (gj okT.nodup sub') t.opt⟩
    ·show aI H5 T.tb _ T.tb=some (.ins c.T T.dx (tf T.most pl (aT T.bit gs') (optCount gs') sd'))
     rw[ah,eU]
    ·show aI H5 T.tb _ sd'=_
     rw[ai nsd];exact esd'
    ·intro kv hkv
     obtain⟨x,hx,y,hy,z,hz,e,ez⟩:=mem kv hkv
     exact⟨x,mem'.mpr hx,y,mem'.mpr hy,z,mem'.mpr hz,e,ez⟩
    ·have p:=p4 x (sub' x hx)
     rw[if_pos hx,if_pos hx,hm,hm]at p
     exact⟨H5of p.obj (fun h=>by injection h with _ _ h;cases h),H5of p.rw (fun h=>by cases h),H5of p.ll (fun h=>by cases h),H5of p.rl (fun h=>by cases h),H5of p.rb (fun h=>by cases h),H5of p.ag (fun h=>by cases h)⟩
   have own:∀b,tK T' b->tK T b\/H b=none:=by
    intro b hb
    rcases hb with h|h|h|⟨x,hx,h⟩
    ·exact .inl (.inl h)
    ·right;rw[show b=pl from h];exact hpl
    ·right
     rw[show b=sd' from h]
     cases e:H sd' with
     |none=>rfl
     |some o=>
      exfalso
      have h3:=k30 _ _ e nsd
      by_cases a:A3 T sd'
      ·obtain⟨x,hx,h⟩:=a
       have:=(p4 x hx).ag
       rw[<-h,hsd']at this;cases this
      ·rw[k4 _ _ h3 a]at hsd';cases hsd'
    ·exact .inl (.inr (.inr (.inr ⟨x,sub' x hx,h⟩)))
   refine q T' _ ⟨tab',rfl,rfl,rfl,rfl,rfl,fun b o e n=>?_,own,fun b hb=>?_,fun b hb=>?_⟩
   ·have n1:b≠T.tb:=fun h=>n (.inl h)
    rw[ai n1]
    refine s5 _ _ (k4 _ _ (k30 b o e n1) fun⟨x,hx,h⟩=>n (.inr (.inr (.inr ⟨x,hx,h⟩))))
   ·rcases hb with h|⟨x,hx,h⟩
    ·exact(own b h).imp .inl id
    ·exact .inl (.inr ⟨x,sub' x hx,h⟩)
   ·have n1:b≠T.tb:=fun h=>by rw[h,ah]at hb;cases hb
    rw[ai n1]at hb
    have hb4:=s5.free hb
    cases e:H b with
    |none=>rfl
    |some o=>
     exfalso
     have h3:=k30 b o e n1
     by_cases a:A3 T b
     ·obtain⟨x,hx,h⟩:=a
      have:=(p4 x hx).ag
      rw[<-h,hb4]at this;cases this
     ·rw[k4 _ _ h3 a]at hb4;cases hb4
end
def mY(te:TE)(σ:St)(H:Hp)(xs:List V):Prop:=∀Q:VK,(∀p H',aB H H'->H' p=some (.lst xs)->Q (.ref p) H')->te σ H Q
theorem mY.y{te:TE}{σ:St}{H:Hp}{xs:List V}{p:Addr}(h:aD te σ H (.ref p))(e:H p=some (.lst xs)):mY te σ H xs:=fun Q q=>h Q (q p H (aB.refl H) e)
theorem mY.new{t:TA}{σ:St}{H:Hp}{xs:List V}(h:YA t σ H xs)(z:xs.length<=sizeLine):mY (nP t) σ H xs:=fun Q q=>h _ ⟨z,fun p hp=>q p _ (aW hp) ah⟩
section
variable{C:Addr}{m:Str}{sp:Sp}{E:XK}{ta A B:TE}{σ:St}{H:Hp}{Q:VK}{D:bN}{i:Nat}{a dx:Addr}{fs:List (Str×V)}{xs ys:List V}
theorem Ga(ha:aD ta σ H (.ref a))(e:H a=some (.ins C dx fs))(l:fs.lookup m=none)(hA:mY A σ H xs)(hB:∀H',aB H H'->mY B σ H' ys)(q:∀p q H',aB H H'->H' p=some (.lst xs)->H' q=some (.lst ys)->sp [.ref a,.ref p,.ref q] H' Q E):fx C m sp [] E ta (a_ A (a_ B ck)) σ H Q:=ha _ ⟨a,dx,fs,rfl,e,l,hA _ fun p H1 s1 e1=>hB H1 s1 _ fun r H2 s2 e2=>q p r H2 (s1.trans s2) (s2 _ _ e1) e2⟩
theorem Dq(ha:aD ta σ H (.ref a))(e:H a=some (.ins C dx fs))(l:fs.lookup m=none)(hA:mY A σ H xs)(hB:∀H',aB H H'->mY B σ H' ys)(q:∀p q H',aB H H'->H' p=some (.lst xs)->H' q=some (.lst ys)->sp [.ref a,.ref p,.ref q] H' D.rt E):ke (fx C m sp [] E ta (a_ A (a_ B ck))) D σ H:=Ga ha e l hA hB q
theorem pI{U W:TE}{u v:V}(hu:aD U σ H u)(hv:aD W σ H v)(hA:mY A σ H xs)(hB:∀H',aB H H'->mY B σ H' ys)(q:∀p q H',aB H H'->H' p=some (.lst xs)->H' q=some (.lst ys)->sp [u,v,.ref p,.ref q] H' (fun v H1=>D.nx (σ.set i (some v)) H1) E):fV (fY sp [] E (a_ U (a_ W (a_ A (a_ B ck))))) (bw i) D σ H:=hu _ (hv _ (hA _ fun p H1 s1 e1=>hB H1 s1 _ fun r H2 s2 e2=>q p r H2 (s1.trans s2) (s2 _ _ e1) e2))
theorem DQ{ta:TA}{j:Int}{p:Nat}{tb:TS}(hi:YA ta σ H [.int j])(Pv:Nat->St->Hp->Prop)(h0:Pv 0 σ H)(hs:∀i σ H,i<j.toNat->Pv i σ H->tb { D with nx:=Pv (i+1),ct:=Pv (i+1),bk:=D.nx } (σ.set p (some (.int i))) H) (hd:∀σ H,Pv j.toNat σ H->D.nx σ H):vb (uB ta) (bw p) tb D σ H:=by refine hi _ ⟨j,rfl,AV Pv h0 (fun i σ H hi p=>?_) hd⟩;have:=hs i σ H hi p;rw[<-Int.zero_add (i:Int)]at this;exact this
end
theorem ef{CP CT CN:Addr}{N N':ae->Prop}{g:ae}{T T1:Tb}{H H1:Hp}{Q:VK}{E:XK}(st:jh CP CT N T H T1 H1)(sub:∀x,N' x->N x)(e:∀T' H',jh CP CT N T H T' H'->sv N T'->E (.ref CN) none H') (q:∀T2 H2,jh CP CT N T H T2 H2->jh CP CT N' T1 H1 T2 H2->g∈T2.gs->Q (T2.at g) H2):nq CP CT CN T1 H1 N' g Q E:=⟨fun T' H' s h=>q T' H' (st.trans (s.mono sub)) s h,fun T' H' s f=>e T' H' (st.trans (s.mono sub)) (f.mono sub)⟩
def qe(c:Cl):Sp:=fun vs H Q E=>∃T:Tb,vs=[.ref T.tb]/\bP c.P c.T H T/\nq c.P c.T c.nR T H (fun x=>x=aM) aM Q E
def Dy(c:Cl):Sp:=fun vs H Q E=>∃(T:Tb)(neg:Bool)(l r:Addr)(ls rs:List ae),vs=[.ref T.tb,.bl neg,.ref l,.ref r]/\bP c.P c.T H T/\H l=some (.lst (ls.map T.at))/\H r=some (.lst (rs.map T.at))/\(∀x∈ls,x∈T.gs)/\(∀x∈rs,x∈T.gs)/\nq c.P c.T c.nR T H (fun x=>x=aq (G0 neg ls rs)) (aq (G0 neg ls rs)) Q E
def BR(c:Cl):Sp:=fun vs H Q E=>∃(T:Tb)(n:Nat),vs=[.ref T.tb,iN n]/\bP c.P c.T H T/\nq c.P c.T c.nR T H (fun x=>az x (bY n)) (bY n) Q E
def xK(c:Cl):Sp:=fun vs H Q E=>∃(T:Tb)(m:Int)(k:Nat),vs=[.ref T.tb,.int m,iN k]/\k<=62/\m.natAbs<2^64/\bP c.P c.T H T/\nq c.P c.T c.nR T H (fun x=>az x (aF k m)) (aF k m) Q E
section
variable{P:Program}{w:World}{K:W.Frag}{mg:Str->Option Value}{base:Heap}{c:Cl}
theorem vC {f:Addr} {fd:FuncData} (F:dB K "zero_form" "zero_form" lD f fd) (tx:dc K mg c) (mF:iV P w K mg base 5 c.T "form_of" ["self","lefts","rights"] (ku c)):bj P w K mg base (cH P w) 6 f fd ["table"] (qe c):=by
 refine F.okX wO (fun vs H Q E h=>?_) (fun cdv A outer s H vs Q E hr L h=>?_)
 ·obtain⟨T,rfl,_⟩:=h;rfl
 ·obtain⟨T,rfl,t,mk⟩:=h;refine⟨_,ak (aN (cf mF tx.clT hr L.passes (pv 0) (aa (bb aj) (aa (bb aj) aj)))),?_⟩;refine Dq yv t.tab rfl (.new .nil (Nat.zero_le _)) (fun H' s=>.new .nil (Nat.zero_le _)) fun p q H' s e1 e2=>⟨T,p,q,[],[],rfl,t.same s,e1,e2,(fun _ h=>nomatch h),(fun _ h=>nomatch h),?_⟩
  rw[show(ae.mk [] [])=aM from rfl,qB];exact ef (.same t s) (fun _ h=>h) mk.2 fun T2 H2 st _ hm=>mk.1 T2 H2 st hm
theorem qQ {f:Addr} {fd:FuncData} (F:dB K "swapped_form" "swapped_form" iC f fd) (tx:dc K mg c) (mF:iV P w K mg base 5 c.T "form_of" ["self","lefts","rights"] (ku c)):bj P w K mg base (cH P w) 6 f fd ["table","swapped","lefts","rights"] (Dy c):=by
 refine F.okX sx (fun vs H Q E h=>?_) (fun cdv A outer s H vs Q E hr L h=>?_)
 ·obtain⟨T,neg,l,r,ls,rs,rfl,_⟩:=h;rfl
 ·obtain⟨T,neg,l,r,ls,rs,rfl,t,hl,hrr,hls,hrs,mk⟩:=h;refine⟨_,af (bC (cY K (pv 1)) (ak (aN (cf mF tx.clT hr L.passes (pv 0) (aa (pv 3) (aa (pv 2) aj))))) a8) (ak (aN (cf mF tx.clT hr L.passes (pv 0) (aa (pv 2) (aa (pv 3) aj))))),?_⟩;refine sq (DD (Yt.bl yv) (fun hb=>?_) (fun hb=>?_))
  ·subst hb;exact qU yv t.tab rfl (.cons yv (.one yv)) ⟨T,r,l,rs,ls,rfl,t,hrr,hl,hrs,hls,mk⟩
  ·subst hb;exact qU yv t.tab rfl (.cons yv (.one yv)) ⟨T,l,r,ls,rs,rfl,t,hl,hrr,hls,hrs,mk⟩
theorem Bi(n:Nat):aq (.mk ((List.range (n+1)).map bY) ((List.range (n+1)).map bY))=bY (n+1):=by rw[<-jn];exact aS (qk (n+1))
theorem Bo:bY 0=aM:=rfl
theorem vG {f:Addr} {fd:FuncData} (F:dB K "heap_form" "heap_form" lG f fd) (tx:dc K mg c) (gZ:gX P w K mg base 6 "zero_form" ["table"] (qe c)) (mF:iV P w K mg base 5 c.T "form_of" ["self","lefts","rights"] (ku c)) :bj P w K mg base (cH P w) 7 f fd ["table","n"] (BR c):=by
 refine F.okX qg (fun vs H Q E h=>?_) (fun cdv A outer s H vs Q E hr L h=>?_)
 ·obtain⟨T,n,rfl,_⟩:=h;rfl
 ·obtain⟨T,n,rfl,t,mk⟩:=h;have nd:=qg.nd;refine⟨_,af (du 2 nd (bS gZ hr L.passes (aa (pv 0) aj))) (af (du 3 nd (bb aj)) (af (cg L.pass L.calm (gV (by rfl) tx.range (aa (pv 1) aj)) (jc 4 nd) (af (aR (ng PySem.F.plainAttrs_list PySem.F.slot_list_append PySem.F.type_list_append mM (pv 3) (aa (pv 2) aj))) (ak (du 2 nd (cf mF tx.clT (hr.mono (show 5<=6 by decide)) L.passes (pv 0) (aa (pv 3) (aa (pv 3) aj))))))) (ak (aN (pv 2))))),?_⟩;refine sq (d9 (.one yv) ⟨T,rfl,t,ef (N:=fun x=>az x (bY n)) (.refl t) (fun x h=>by rw[h,<-Bo];exact nW (Nat.zero_le n)) mk.2 fun T1 H1 st1 _ hm1=>?_⟩);dsimp only;refine sq (E3 .nil (Nat.zero_le _) fun l hl=>?_);dsimp only;have hlH:H l=none:=st1.live l hl;have e1:=st1.ext.tb;refine sq (DQ (.one yv) (fun i σ H2=>∃T2 v,jh c.P c.T (fun x=>az x (bY n)) T H T2 H2/\σ=[some (.ref T2.tb),some (iN n),some (T2.at (bY i)),some (.ref l),v]/\(∀j,j<=i->bY j∈T2.gs)/\H2 l=some (.lst (((List.range i).map bY).map T2.at))/\¬cx T2 l) ?_ ?_ ?_)
  ·exact⟨T1,none,st1.write hlH (st1.tab.freshA hl),by rw[e1];rfl,fun j hj=>by rw[Nat.le_zero.mp hj];exact hm1,ah,st1.tab.freshA hl⟩
  ·rintro i σ H2 hi ⟨T2,v,st,rfl,hj,hl2,nA⟩;have hin:i<n:=by simpa using hi
   have h96:i<96:=by
    have:=aC (l:=(List.range (i+1)).map bY) (P:=T2.gs) (by
     rw[List.nodup_iff_pairwise_ne,List.pairwise_map];exact List.nodup_range.imp fun{a b}ne e=>ne (mn (by rw[e];exact le_refl _))) (fun x hx=>by
     obtain⟨j,hj',rfl⟩:=List.mem_map.mp hx;exact hj j (by have:=List.mem_range.mp hj';omega))
    rw[List.length_map,List.length_range]at this;have:=st.tab.len;omega
   refine sq (sF yv hl2 (.one yv) ⟨l,_,_,rfl,rfl,hl2,?_,?_⟩)
   ·rw[List.length_map,List.length_map,List.length_range];exact Nat.lt_trans h96 (by decide)
   have eL:((List.range i).map bY).map T2.at++[T2.at (bY i)]=((List.range (i+1)).map bY).map T2.at:=by rw[List.range_succ,List.map_append,List.map_append];rfl
   rw[eL];have st3:=st.write (o:=.lst (((List.range (i+1)).map bY).map T2.at)) hlH nA;dsimp only;have hL:∀x∈(List.range (i+1)).map bY,x∈T2.gs:=fun x hx=>by obtain⟨j,hj',rfl⟩:=List.mem_map.mp hx;exact hj j (by have:=List.mem_range.mp hj';omega)
   refine j1 yv st3.tab.tab rfl (.cons yv (.one yv)) ⟨T2,l,l,_,_,rfl,st3.tab,ah,ah,hL,hL,?_⟩;rw[Bi];refine ef st3 (fun x h=>by rw[h];exact nW (by omega)) mk.2 fun T4 H4 st4 stp hm=>?_;obtain⟨o1,o2⟩:=stp.own_all ah nA;refine⟨T4,_,st4,by rw[stp.ext.tb];rfl,fun j hj'=>?_,?_,o2⟩
   ·by_cases e:j=i+1
    ·rw[e];exact hm
    ·exact stp.ext.sub _ (hj j (by omega))
   ·rw[stp.ext.ats hL];exact o1
  ·rintro σ H2 ⟨T2,v,st,rfl,hj,hl2,nA⟩;rw[show((n:Nat):Int).toNat=n from Int.toNat_natCast n]at hj⊢;dsimp only;exact iG yv (mk.1 T2 H2 st (hj n (Nat.le_refl _)))
end
theorem Dv(neg:Bool)(a b:Int):sg neg (a*b)=sg neg a*b:=by cases neg<;>simp[sg,Int.neg_mul]
theorem Aa(neg:Bool)(k:Nat)(a:Int):aF (k+1) (sg neg (2*a))=aF k (sg neg a):=by rw[Int.mul_comm,Dv,Int.mul_comm,aY]
theorem rV(neg:Bool)(k j:Nat)(a:Int):aF (k+j) (sg neg (a*2^j))=aF k (sg neg a):=by rw[Dv,jX]
theorem yF(m:Int):sg (decide (m<0)) ((m.natAbs:Nat):Int)=m:=by
 unfold sg;by_cases c:m<0
 ·rw[decide_eq_true c,if_pos rfl];omega
 ·rw[decide_eq_false c,if_neg (by decide)];omega
theorem CL(neg:Bool){j k:Nat}{a r:Int}(h0:0<r)(h:r<2^(j+1)):az (aF (k+1) (sg neg (2*a+1))) (aF (k+1+j) (sg neg (a*2^(j+1)+r))):=by
 have p2:(2:Int)^(j+1)=2*2^j:=by rw[Int.pow_succ,Int.mul_comm]
 have e0:a*2^(j+1)=2*a*2^j:=by rw[p2,<-Int.mul_assoc,Int.mul_comm a 2]
 rcases Int.lt_trichotomy r (2^j)with c|c|c
 ·rw[e0];exact(qV neg h0 c).2
 ·rw[e0,c,show 2*a*2^j+2^j=(2*a+1)*2^j by rw[Int.add_mul,Int.one_mul],rV];exact .refl
 ·have:=(qV neg (j:=j) (k:=k+1) (a:=2*a+1) (r:=r-2^j) (by omega) (by omega)).1;rw[show(2*a+1)*2^j+(r-2^j)=a*2^(j+1)+r by rw[e0,Int.add_mul,Int.one_mul];omega]at this;exact this
section
variable{P:Program}{w:World}{K:W.Frag}{mg:Str->Option Value}{base:Heap}{c:Cl}
theorem aD.abs{ta:TE}{σ:St}{H:Hp}{m:Int}(h:aD ta σ H (.int m)):aD (Ab (fun xs H Q=>∃i,xs=[.int i]/\Q (.int (if i<0 then -i else i)) H) (a_ ta ck)) σ H (iN m.natAbs):=fun Q q=>h _ ⟨m,rfl,by rw[show(if m<0 then -m else m)=((m.natAbs:Nat):Int) by split<;>omega];exact q⟩
theorem mY.one{te:TE}{σ:St}{H:Hp}{v:V}(h:aD te σ H v):mY (nP (a_ te ck)) σ H [v]:=.new (.one h) (by show 1<=sizeLine;decide)
theorem mY.nil{σ:St}{H:Hp}:mY (nP ck) σ H []:=.new .nil (Nat.zero_le _)
set_option maxHeartbeats 4000000 in
theorem tj {f:Addr} {fd:FuncData} (F:dB K "number_form" "number_form" iX f fd) (tx:dc K mg c) (gZ:gX P w K mg base 6 "zero_form" ["table"] (qe c)) (gS:gX P w K mg base 6 "swapped_form" ["table","swapped","lefts","rights"] (Dy c)) :bj P w K mg base (cH P w) 7 f fd ["table","m","k"] (xK c):=by
 refine F.okX nv (fun vs H Q E h=>?_) (fun cdv A outer s H vs Q E hr L h=>?_)
 ·obtain⟨T,m,k,rfl,_⟩:=h;rfl
 ·obtain⟨T,m,k,rfl,hk,hm64,t,mk⟩:=h;have nd:=nv.nd;refine⟨_,af (du 3 nd (vN uw (pv 1) aA (aX _))) (af (du 4 nd (aO B1 (aJ oG (by rfl) tx.abs mv (aa (pv 1) aj)) (pv 2))) (af (du 5 nd (aO qd (aJ oG (by rfl) tx.abs mv (aa (pv 1) aj)) (aO Cg (pv 4) (pv 2)))) (af (du 6 nd (bS gZ hr L.passes (aa (pv 0) aj))) (af (cg L.pass L.calm (gV (by rfl) tx.range (aa (pv 4) aj)) (jc 7 nd) (ak (du 6 nd (bS gS hr L.passes (aa (pv 0) (aa (pv 3) (aa (bb (aa (pv 6) aj)) (aa (bb aj) aj)))))))) (af (bC (aK d5 (pv 5) aA (aX _)) (ak (aN (pv 6))) a8) (af (du 8 nd (bS gS hr L.passes (aa (pv 0) (aa (pv 3) (aa (bb (aa (pv 6) aj)) (aa (bb aj) aj)))))) (af (du 9 nd (aO Cg aA (pv 2))) (af (kG L.pass (aK ow (pv 5) aA (aX _)) (af (du 9 nd (aO DI (pv 9) aA)) (af (du 10 nd (bS gS hr L.passes (aa (pv 0) (aa (pv 3) (aa (bb (aa (pv 6) aj)) (aa (bb (aa (pv 8) aj)) aj)))))) (ak (bC (aK uw (pv 5) (pv 9) (aX _)) (ak (du 8 nd (pv 10))) (af (du 6 nd (pv 10)) (ak (FH 5 nd (pv 9) zQ)))))))) (ak (aN (pv 6))))))))))),?_⟩;let M:=m.natAbs;let wh:=M/2^k;let r:=M%2^k;let neg:=decide (m<0);have hp:0<2^k:=Nat.two_pow_pos k;have hr2:r<2^k:=Nat.mod_lt _ hp;have eM:wh*2^k+r=M:=by rw[Nat.mul_comm];exact Nat.div_add_mod M (2^k)
  have eMi:((wh:Nat):Int)*2^k+((r:Nat):Int)=((M:Nat):Int):=by exact_mod_cast eM
  have em:aF k m=aF k (sg neg ((wh:Int)*2^k+(r:Int))):=by rw[eMi];exact congrArg (aF k) (yF m).symm
  have hr2i:((r:Nat):Int)<2^k:=by exact_mod_cast hr2
  have whp:∀i,i<=wh->az (aF 0 (sg neg (i:Nat))) (aF k m):=fun i hi=>by rw[em];exact yU neg hi (by omega) hr2i
  refine sq (fH (.i0 yv .c) ?_);dsimp only;refine sq (fH (.ic (.abs yv) yv (by show(0:Int)<=((k:Nat):Int);omega)) ?_);dsimp only;have e1:(((m.natAbs:Nat):Int)/2^((k:Nat):Int).toNat)=((wh:Nat):Int):=by rw[Int.toNat_natCast];push_cast;rfl
  rw[e1];have hwh:wh<2^64:=Nat.lt_of_le_of_lt (Nat.div_le_self _ _) hm64;refine sq (fH (.i0 (.abs yv) (.ic yv yv ⟨by omega,by omega,by rw[Int.natAbs_natCast];exact hwh⟩)) ?_);dsimp only;have e2:(((m.natAbs:Nat):Int)-((wh:Nat):Int)*2^((k:Nat):Int).toNat)=((r:Nat):Int):=by rw[Int.toNat_natCast];have:((m.natAbs:Nat):Int)=((wh:Nat):Int)*2^k+((r:Nat):Int):=eMi.symm;omega
  rw[e2];refine sq (d9 (.one yv) ⟨T,rfl,t,ef (N:=fun x=>az x (aF k m)) (.refl t) (fun x h=>by rw[h,<-wJ neg];exact whp 0 (Nat.zero_le _)) mk.2 fun T1 H1 st1 _ hm1=>?_⟩);dsimp only;have eT1:=st1.ext.tb;refine sq (DQ (.one yv) (fun i σ H2=>∃T2 v,jh c.P c.T (fun x=>az x (aF k m)) T H T2 H2/\σ=[some (.ref T2.tb),some (.int m),some (iN k),some (.bl neg),some (iN wh),some (iN r),some (T2.at (aF 0 (sg neg (i:Nat)))),v,none,none,none]/\aF 0 (sg neg (i:Nat))∈T2.gs) ?_ ?_ ?_)
  ·refine⟨T1,none,st1,?_,?_⟩
   ·rw[eT1,show aF 0 (sg neg ((0:Nat):Int))=aM from wJ neg];rfl
   ·rw[show aF 0 (sg neg ((0:Nat):Int))=aM from wJ neg];exact hm1
  ·rintro i σ H2 hi ⟨T2,v,st,rfl,hmem⟩;have hin:i<wh:=by simpa using hi
   refine pI (xs:=[aF 0 (sg neg (i:Nat))].map T2.at) (ys:=([]:List ae).map T2.at) yv yv (.one yv) (fun H' s=>.nil) fun p q H3 s3 e3 e4=>⟨T2,neg,p,q,_,_,rfl,st.tab.same s3,e3,e4,fun x hx=>by rw[List.mem_singleton.mp hx];exact hmem,(fun _ h=>nomatch h),?_⟩
   rw[AD,aS (fF _ _)];refine ef (st.then s3) (fun x h=>by rw[h];exact whp (i+1) (by omega)) mk.2 fun T4 H4 st4 stp hm=>?_;exact⟨T4,_,st4,by rw[stp.ext.tb];rfl,hm⟩
  ·rintro σ H2 ⟨T2,v,st,rfl,hmem⟩;rw[show((wh:Nat):Int).toNat=wh from Int.toNat_natCast wh]at hmem⊢;dsimp only;refine sq (iD (b':=decide (r=0)) (Yt.b (aD.eq yv .c)) (decide_eq_decide.mpr ⟨fun h=>by omega,fun h=>by omega⟩) (fun hb=>?_) (fun hb=>?_))
   ·have hb:=of_decide_eq_true hb;have e:aF k m=aF 0 (sg neg (wh:Nat)):=by rw[em,hb];have:=rV neg 0 k (wh:Nat);rw[Nat.zero_add]at this;simpa using this
    refine iG yv ?_;have:=mk.1 T2 H2 st (by rw[e];exact hmem);rw[e]at this;exact this
   dsimp only[cO];have hb:r≠0:=fun h=>by rw[decide_eq_true h]at hb;cases hb
   refine sq (pI (xs:=[aF 0 (sg neg (wh:Nat))].map T2.at) (ys:=([]:List ae).map T2.at) yv yv (.one yv) (fun H' s=>.nil) fun p q H3 s3 e3 e4=>⟨T2,neg,p,q,_,_,rfl,st.tab.same s3,e3,e4,fun x hx=>by rw[List.mem_singleton.mp hx];exact hmem,(fun _ h=>nomatch h),?_⟩);rw[AD,aS (fF _ _)];refine ef (st.then s3) (fun x h=>?_) mk.2 fun T4 H4 st4 stp hm=>?_
   ·rw[h,em];have:=(qV neg (j:=k) (k:=0) (a:=(wh:Nat)) (r:=(r:Nat)) (by omega) hr2i).2;rw[Nat.zero_add]at this;exact this
   dsimp only;refine sq (fH (.ic .c yv ⟨by omega,by omega,by decide⟩) ?_);dsimp only;have e5:((1:Int)*2^((k:Nat):Int).toNat)=((2^k:Nat):Int):=by rw[Int.toNat_natCast,Int.one_mul];push_cast;rfl
   rw[e5];refine sq ⟨fun j σ H5=>∃(T5:Tb)(a q:Nat)(v7 v10:Option V),jh c.P c.T (fun x=>az x (aF k m)) T H T5 H5/\j<=k/\q<2^j/\a*2^j+q=M/\aF (k-j) (sg neg (a:Nat))∈T5.gs/\aF (k-j) (sg neg ((a:Nat)+1))∈T5.gs/\σ=[some (.ref T5.tb),some (.int m),some (iN k),some (.bl neg),some (iN wh),some (iN q),some (T5.at (aF (k-j) (sg neg (a:Nat)))),v7,some (T5.at (aF (k-j) (sg neg ((a:Nat)+1)))),some (iN (2^j)),v10],⟨k,T4,wh,r,v,none,st4,Nat.le_refl _,hr2,eM,?_,?_,?_⟩,?_⟩
   ·rw[Nat.sub_self];exact stp.ext.sub _ hmem
   ·rw[Nat.sub_self];exact hm
   ·rw[Nat.sub_self,stp.ext.tb,stp.ext.at hmem];rfl
   rintro j σ H5 ⟨T5,a,q,v7,v10,st5,hj,hq,eq5,m1,m2,rfl⟩;refine Yt.b (aD.i0 (ta:=aZ 5) (tb:=tC (.int 0)) (i:=(q:Nat)) (j:=0) (g:=fun i j=>.bl (decide (j<i))) yv .c) _ ?_;by_cases c0:0<q
   ·rw[decide_eq_true (show(0:Int)<((q:Nat):Int) by omega),if_pos rfl]
    obtain⟨j',rfl⟩:∃j',j=j'+1:=by
     cases j with
     |zero=>simp at hq;omega
     |succ j'=>exact⟨j',rfl⟩
    have ekj:k-j'=k-(j'+1)+1:=by omega
    have p2:(2:Nat)^(j'+1)=2*2^j':=by rw[Nat.pow_succ,Nat.mul_comm]
    refine⟨fun σ' H'=>∃(T5:Tb)(a q:Nat)(v7 v10:Option V),jh c.P c.T (fun x=>az x (aF k m)) T H T5 H'/\j'<=k/\q<2^j'/\a*2^j'+q=M/\aF (k-j') (sg neg (a:Nat))∈T5.gs/\aF (k-j') (sg neg ((a:Nat)+1))∈T5.gs/\σ'=[some (.ref T5.tb),some (.int m),some (iN k),some (.bl neg),some (iN wh),some (iN q),some (T5.at (aF (k-j') (sg neg (a:Nat)))),v7,some (T5.at (aF (k-j') (sg neg ((a:Nat)+1)))),some (iN (2^j')),v10],fun σ' H' h=>⟨j',by omega,h⟩,?_⟩;refine sq (fH (.ic yv .c ⟨by decide,by decide⟩) ?_);dsimp only;have e6:((2^(j'+1):Nat):Int)/2=((2^j':Nat):Int):=by rw[p2];omega
    rw[e6];refine sq (pI (xs:=[aF (k-(j'+1)) (sg neg (a:Nat))].map T5.at) (ys:=[aF (k-(j'+1)) (sg neg ((a:Nat)+1))].map T5.at) yv yv (.one yv) (fun H' s=>.one yv) fun p r2 H6 s6 e7 e8=>⟨T5,neg,p,r2,_,_,rfl,st5.tab.same s6,e7,e8,fun x hx=>by rw[List.mem_singleton.mp hx];exact m1,fun x hx=>by rw[List.mem_singleton.mp hx];exact m2,?_⟩);rw[AN,aS (fF _ _)];refine ef (st5.then s6) (fun x h=>?_) mk.2 fun T7 H7 st7 stp7 hm7=>?_
    ·rw[h];have:=CL neg (j:=j') (k:=k-(j'+1)) (a:=(a:Nat)) (r:=(q:Nat)) (by omega) (by exact_mod_cast hq);rw[show k-(j'+1)+1+j'=k by omega,show((a:Nat):Int)*2^(j'+1)+((q:Nat):Int)=((M:Nat):Int) by exact_mod_cast eq5,show sg neg ((M:Nat):Int)=m from yF m]at this;exact this
    have x1:=stp7.ext.at m1;have x2:=stp7.ext.at m2;have x0:=stp7.ext.tb;have y1:=stp7.ext.sub _ m1;have y2:=stp7.ext.sub _ m2;have z1:aF (k-(j'+1)) (sg neg (a:Nat))=aF (k-j') (sg neg ((2*a:Nat):Int)):=by rw[ekj];push_cast;exact(Aa neg _ _).symm
    have z2:aF (k-(j'+1)) (sg neg ((a:Nat)+1))=aF (k-j') (sg neg (((2*a+1:Nat):Int)+1)):=by rw[ekj,show(((2*a+1:Nat):Int)+1)=2*((a:Nat)+1) by push_cast;omega];exact(Aa neg _ _).symm
    have z3:aF (k-(j'+1)+1) (sg neg (2*(a:Nat)+1))=aF (k-j') (sg neg ((2*a:Nat)+1)):=by rw[ekj];push_cast;rfl
    have z4:aF (k-(j'+1)+1) (sg neg (2*(a:Nat)+1))=aF (k-j') (sg neg ((2*a+1:Nat):Int)):=by rw[ekj];push_cast;rfl
    dsimp only;refine iD (b':=decide (q<2^j')) (Yt.b (aD.i0 yv yv)) (decide_eq_decide.mpr Int.ofNat_lt) (fun hb=>?_) (fun hb=>?_)
    ·have hb:=of_decide_eq_true hb;refine fH yv ⟨T7,2*a,q,v7,some (T7.at (aF (k-(j'+1)+1) (sg neg (2*(a:Nat)+1)))),st7,by omega,hb,?_,?_,?_,?_⟩
     ·rw[<-eq5,p2,Nat.mul_comm 2 a,Nat.mul_assoc]
     ·rw[<-z1];exact y1
     ·rw[<-z3];exact hm7
     ·rw[<-z1,<-z3,x0,x1];rfl
    ·have hb:¬q<2^j':=of_decide_eq_false hb;refine sq (fH yv ?_);dsimp only;refine yX yv ⟨T7,2*a+1,q-2^j',v7,some (T7.at (aF (k-(j'+1)+1) (sg neg (2*(a:Nat)+1)))),st7,by omega,by omega,?_,?_,?_,?_⟩
     ·rw[Nat.add_mul,Nat.one_mul,Nat.mul_comm 2 a,Nat.mul_assoc,<-p2];omega
     ·rw[<-z4];exact hm7
     ·rw[<-z2];exact y2
     ·rw[<-z4,<-z2,x0,x2,show(((q:Nat):Int)-((2^j':Nat):Int))=((q-2^j':Nat):Int) by omega];rfl
   ·rw[decide_eq_false (show ¬(0:Int)<((q:Nat):Int) by omega)];rw[if_neg (by decide)];have q0:q=0:=by omega
    have e:aF k m=aF (k-j) (sg neg (a:Nat)):=by have h1:=rV neg (k-j) j (a:Nat);rw[show k-j+j=k by omega]at h1;rw[<-h1,show((a:Nat):Int)*2^j=((M:Nat):Int) by rw[<-eq5,q0];push_cast;omega];exact congrArg (aF k) (yF m).symm
    refine iG yv ?_;have:=mk.1 T5 H5 st5 (by rw[e];exact m1);rw[e]at this;exact this
end
end Gp
namespace Gth
theorem zi{l l' r r':List ae}(hl:∀x,x∈l↔x∈l')(hr:∀x,x∈r↔x∈r'):aq (.mk l r)=aq (.mk l' r'):=oh (zx (fun y hy=>⟨y,(hl y).mpr hy,ju y⟩) (fun x hx=>⟨x,(hl x).mp hx,ju x⟩) (fun y hy=>⟨y,(hr y).mpr hy,ju y⟩) (fun x hx=>⟨x,(hr x).mp hx,ju x⟩))
theorem iT:∀(n:Nat)(x y:ae),born x+born y<n->aq (bt x y)=aq (bt y x)
 |0,_,_,h=>by omega
 |n+1,x,y,h=>by
  rw[o7 x y,o7 y x];have side:∀d:Bool,∀z,z∈(opt d x).map (fun a=>aq (bt a y))++(opt d y).map (fun b=>aq (bt x b))↔z∈(opt d y).map (fun a=>aq (bt a x))++(opt d x).map (fun b=>aq (bt y b)):=by intro d z;have e1:(opt d x).map (fun a=>aq (bt a y))=(opt d x).map (fun b=>aq (bt y b)):=List.map_congr_left fun a ha=>iT n a y (by have:=kD ha;omega);have e2:(opt d y).map (fun b=>aq (bt x b))=(opt d y).map (fun a=>aq (bt a x)):=List.map_congr_left fun a ha=>iT n x a (by have:=kD ha;omega);rw[e1,e2,List.mem_append,List.mem_append,or_comm]
  exact zi (side false) (side true)
theorem uT(x y:ae):aq (bt x y)=aq (bt y x):=iT _ x y (Nat.lt_succ_self _)
theorem yC{ps:List ae}(h:ps.Pairwise before){i:Nat}{p y:ae}(hp:ps[i]?=some p)(hy:y∈ps)(hb:before y p):y∈ps.take i:=by
 obtain⟨j,hj⟩:=List.mem_iff_getElem?.mp hy;rcases Nat.lt_trichotomy j i with c|c|c
 ·exact List.mem_iff_getElem?.mpr ⟨j,by rw[List.getElem?_take,if_pos c];exact hj⟩
 ·subst c;rw[hp]at hj;cases hj;exact absurd hb (bE _)
 ·exact absurd hb (eZ (oa h hp hj c))
end Gth
namespace Gp
open PySem PySem.Spec L2 Gth
open PyProof.Rows hiding St
section
variable{C:Addr}{m:Str}{sp:Sp}{E:XK}{ta td ty:TE}{t:TA}{σ:St}{H:Hp}{D:bN}{a dx:Addr}{fs:List (Str×V)}{vs:List V}{K:W.Frag}
theorem C4{k:dU}{v:V}{kvs:List (dU×V)}{d:Addr}(ha:aD td σ H (.ref d))(hk:aD ty σ H (kV k))(e:H d=some (.dK kvs))(z:kvs.length<sizeLine)(q:D.nx σ (aI H d (.dK (iS kvs k v)))):td σ H fun x H2=>ty σ H2 fun y H3=>∃a H4,x=.ref a/\w6 H3 a y v H4/\D.nx σ H4:=ha _ (hk _ ⟨d,_,rfl,w6.k e z,q⟩)
theorem Ca(ha:aD ta σ H (.ref a))(e:H a=some (.ins C dx fs))(l:fs.lookup m=none)(h:YA t σ H vs)(q:sp (.ref a::(vs++[])) H (fun v H1=>td σ H1 fun x H2=>ty σ H2 fun y H3=>∃a H4,x=.ref a/\w6 H3 a y v H4/\D.nx σ H4) E):CK td ty (fx C m sp [] E ta t) D σ H:=lF ha e l h q
theorem z8{g:TG}{tb:TS}(ha:aD ta σ H (.ref a))(e:H a=some (.ins C dx fs))(l:fs.lookup m=none)(h:YA t σ H vs)(q:sp (.ref a::(vs++[])) H (fun x H1=>∃b,x=.ref b/\(∃ys,aV K H1 b ys)/\∃W:Nat->Nat->St->Hp->Prop,(∃m,W 0 m σ H1)/\∀i m σ H,W i m σ H->((z6 K b).stop i H/\D.nx σ H)\/((z6 K b).go i H/\∃N:St->Hp->Prop,(∀σ' H',N σ' H'->∃m',m'<m/\W (i+1) m' σ' H')/\∀x H',(z6 K b).yld i H x H'->g x σ H' fun σ2 H2=>tb { D with nx:=N,ct:=N,bk:=D.nx } σ2 H2)) E) :vb (kX K (fx C m sp [] E ta t)) g tb D σ H:=lF ha e l h q
end
theorem vd{T:Tb}(ok:gm T.gs T.bit)(x:ae):(T.partsIn x).Pairwise before:=ok.rise.sublist List.filter_sublist
theorem iH{CP CT:Addr}{H:Hp}{T:Tb}(t:bP CP CT H T){g p y:ae}(hg:g∈T.gs){i:Nat}(hp:(T.partsIn g)[i]?=some p){d:Bool}(hy:y∈opt d p):y∈(T.partsIn g).take i:=by
 have hpm:=(b6 t hg).mp (List.mem_of_getElem? hp);refine yC (vd t.ok g) hp ((b6 t hg).mpr ?_) (jS hy);cases d
 ·exact az.trans (.left _ _ hy .refl) hpm
 ·exact az.trans (.right _ _ hy .refl) hpm
def vF(c:Cl):Sp:=fun vs H Q E=>∃(T:Tb)(g:ae),vs=[.ref T.tb,T.at g]/\bP c.P c.T H T/\g∈T.gs/\nq c.P c.T c.nR T H (x9 g) (aq (bo g)) Q E
section
variable{P:Program}{w:World}{K:W.Frag}{mg:Str->Option Value}{base:Heap}{c:Cl}
set_option maxHeartbeats 4000000 in
theorem tU {f:Addr} {fd:FuncData} (F:dB K "minus_form" "minus_form" jQ f fd) (tx:dc K mg c) (mP:iV P w K mg base 1 c.T "parts_of" ["self","game"] (l9 c)) (mF:iV P w K mg base 5 c.T "form_of" ["self","lefts","rights"] (ku c)) :bj P w K mg base (cH P w) 6 f fd ["table","game"] (vF c):=by
 refine F.okX oO (fun vs H Q E h=>?_) (fun cdv A outer s H vs Q E hr L h=>?_)
 ·obtain⟨T,g,rfl,_⟩:=h;rfl
 ·obtain⟨T,g,rfl,t,hg,mk⟩:=h;have nd:=oO.nd;have hu:=nj hr;refine⟨_,af (du 2 nd ig) (af (cg L.pass L.calm (oK K (cf mP tx.clT (hr.mono (show 1<=5 by decide)) bq (pv 0) (aa (pv 1) aj))) (jc 3 nd) (af (cy (i:=4) (own:=[("option",6)]) L.calm nd rfl rfl (dr rfl rfl rfl rfl) (oK K (cu K (fk K (pv 3)) (aL tx.RIGHT) (fun _ _=>rfl))) (bD rfl) (fun _ _ _ _ _=>jc 6 nd) (fun _ _ _ _ _=>c_) (fun _ _ _ _ _=>d6 hu (pv 2) (fk K (pv 6)) (fun _ _=>rfl))) (af (cy (i:=5) (own:=[("option",6)]) L.calm nd rfl rfl (dr rfl rfl rfl rfl) (oK K (cu K (fk K (pv 3)) (aL tx.LEFT) (fun _ _=>rfl))) (bD rfl) (fun _ _ _ _ _=>jc 6 nd) (fun _ _ _ _ _=>c_) (fun _ _ _ _ _=>d6 hu (pv 2) (fk K (pv 6)) (fun _ _=>rfl))) (ak (jI hu (pv 2) (fk K (pv 3)) (cf mF tx.clT hr L.passes (pv 0) (aa (pv 4) (aa (pv 5) aj))) rfl))))) (ak (aN (d6 hu (pv 2) (fk K (pv 1)) (fun _ _=>rfl))))),?_⟩;refine sq (mE fun dp hdp=>?_);have s0:aB H (aI H dp (.dK [])):=aW hdp;dsimp only;refine sq (z8 yv (s0 _ _ t.tab) rfl (.one yv) ⟨T,g,rfl,t.same s0,hg,fun lp H1 hlp s1 e1=>?_⟩);have s1':=s0.trans s1;have hlpH:H lp=none:=s0.free hlp;have t1:=t.same s1';have nlp:lp≠dp:=fun h=>by rw[h,ah]at hlp;cases hlp
  refine Ao (xs:=T.partsIn g) (f:=T.at) (fun i σ H2=>∃T2 v3 v4 v5 kvs,jh c.P c.T (x9 g) T H T2 H2/\σ=[some (.ref T2.tb),some (T.at g),some (.ref dp),v3,v4,v5,none]/\H2 lp=some (.lst ((T.partsIn g).map T.at))/\¬cx T2 lp/\H2 dp=some (.dK kvs)/\¬cx T2 dp/\kvs.length<=i/\∀x∈(T.partsIn g).take i,bQ kvs (.inl ((2^T.bit x:Nat):Int))=some (T2.at (aq (bo x)))/\aq (bo x)∈T2.gs) (aV.of e1) ?_ ?_ ?_ ?_
  ·exact⟨T,none,none,none,[],.same t s1',rfl,e1,t.freshA hlpH,s1 _ _ ah,t.freshA hdp,Nat.le_refl _,fun x hx=>by simp at hx⟩
  ·rintro i σ H2 _ ⟨T2,v3,v4,v5,kvs,st,_,e,_⟩;exact aV.of e
  ·rintro i p σ H2 hp ⟨T2,v3,v4,v5,kvs,st,rfl,el,nl,ed,ndp,lk,hk⟩;have hpg:p∈T.gs:=(List.mem_filter.mp (List.mem_of_getElem? hp)).1;have hp2:p∈T2.gs:=st.ext.sub p hpg;have bp:=st.ext.bit p hpg;have ap:=st.ext.at hpg;have i96:i<96:=Nat.lt_of_lt_of_le (List.getElem?_eq_some_iff.mp hp).1 (Nat.le_trans (List.length_filter_le _ _) t.len);have row:∀{d:Bool} {H':Hp} {σ:St} {n:Nat},aB H2 H'->∀y∈opt d p,aD (aZ 6) σ H' (T2.at y)->aD (aZ 2) σ H' (.ref dp)->BM (Aj (aZ 2) (dO K (aZ 6) "bit")) σ H' (T2.at (aq (bo y))):=by intro d H' σ n s y hy h6 h2;have hy':=iH t hg hp hy;have hyg:y∈T.gs:=t.ok.opts p hpg d y hy;refine(aD.dget h2 (b_ tx (st.tab.same s) (st.ext.sub y hyg) h6) ?_).s;rw[st.ext.bit y hyg,<-(hk y hy').1];exact gq.k (k:=Sum.inl ((2^T.bit y:Nat):Int)) (s _ _ ed)
   have oin:∀{d:Bool},∀y∈opt d p,aq (bo y)∈T2.gs:=fun y hy=>(hk y (iH t hg hp hy)).2;rw[<-ap];refine sq (kd (xs:=opt true p) (f:=T2.at) (e:=fun y=>T2.at (aq (bo y))) (p:=fun _=>true) (iQ (d:=true) tx st.tab hp2 yv .c) (aV.of (fg st.tab hp2)) (iq st.tab hp2) (fun y hy H' s=>n_.yes) (fun y hy _ H' s=>row (d:=true) (n:=0) s y hy yv yv) (fun l1 H3 hl1 s3 e3=>?_));rw[bH]at e3;dsimp only;refine sq (kd (xs:=opt false p) (f:=T2.at) (e:=fun y=>T2.at (aq (bo y))) (p:=fun _=>true) (iQ (d:=false) tx (st.tab.same s3) hp2 yv .c) (aV.of (fg (st.tab.same s3) hp2)) (iq st.tab hp2) (fun y hy H' s=>n_.yes) (fun y hy _ H' s=>row (d:=false) (n:=0) (s3.trans s) y hy yv yv) (fun l2 H4 hl2 s4 e4=>?_));rw[bH]at e4;have s34:=s3.trans s4;dsimp only;have t4:=st.tab.same s34;refine Ca yv t4.tab rfl (.cons yv (.one yv)) ⟨T2,l1,l2,p.right.map fun y=>aq (bo y),p.left.map fun y=>aq (bo y),rfl,t4,by rw[List.map_map];exact s4 _ _ e3,by rw[List.map_map];exact e4,fun x hx=>by obtain⟨y,hy,rfl⟩:=List.mem_map.mp hx;exact oin (d:=true) y hy,fun x hx=>by obtain⟨y,hy,rfl⟩:=List.mem_map.mp hx;exact oin (d:=false) y hy,?_⟩;rw[<-xY];have hN:x9 g (aq (bo p)):=⟨p,(b6 t hg).mp (List.mem_of_getElem? hp),rfl⟩
   refine ef (st.then s34) (fun x h=>by rw[h];exact hN) mk.2 fun T5 H5 st5 stp hm=>?_;obtain⟨d1,d2⟩:=stp.own_all (s34 _ _ ed) ndp;obtain⟨l1',l2'⟩:=stp.own_all (s34 _ _ el) nl;refine C4 (k:=.inl ((2^T.bit p:Nat):Int)) yv ?_ d1 (Nat.lt_of_le_of_lt lk (Nat.lt_trans i96 (by decide))) ⟨T5,some (T2.at p),some (.ref l1),some (.ref l2),iS kvs (.inl ((2^T.bit p:Nat):Int)) (T5.at (aq (bo p))),st5.write hdp d2,by rw[stp.ext.tb];rfl,?_,l2',ah,d2,?_,?_⟩
   ·have:=b_ tx st5.tab (σ:=[some (.ref T2.tb),some (T.at g),some (.ref dp),some (T2.at p),some (.ref l1),some (.ref l2),none]) (te:=aZ 3) (stp.ext.sub p hp2) (by rw[stp.ext.at hp2];exact yv);rw[stp.ext.bit p hp2,bp]at this;exact this
   ·rw[ai nlp];exact l1'
   ·exact Nat.le_trans (eK _ _ _) (by omega)
   ·intro x hx;rw[a7 hp,List.mem_append,List.mem_singleton]at hx;rw[oF];by_cases e:x=p
    ·subst e;rw[if_pos rfl];exact⟨rfl,hm⟩
    ·have hx':=hx.resolve_right e;have hxg:x∈T.gs:=(List.mem_filter.mp (List.mem_of_mem_take hx')).1;rw[if_neg,stp.ext.at (hk x hx').2]
     ·exact⟨(hk x hx').1,stp.ext.sub _ (hk x hx').2⟩
     ·intro h;injection h with h
      exact e (t.ok.inj x hxg p hpg ((Nat.pow_right_inj (by decide)).mp (Int.ofNat_inj.mp h)))
  ·rintro σ H2 ⟨T2,v3,v4,v5,kvs,st,rfl,el,nl,ed,ndp,lk,hk⟩;rw[List.take_length]at hk;obtain⟨h1,h2⟩:=hk g ((b6 t hg).mpr .refl);dsimp only;refine iG (.dget yv (b_ tx st.tab (st.ext.sub g hg) (by rw[st.ext.at hg];exact yv)) (v:=T2.at (aq (bo g))) ?_) (mk.1 T2 H2 st h2);rw[st.ext.bit g hg,<-h1];exact gq.k (k:=Sum.inl ((2^T.bit g:Nat):Int)) ed
end
end Gp
namespace Gp
open PySem PySem.Spec L2 Gth
open PyProof.Rows hiding St
theorem uX{gs:List ae}{bit:ae->Nat}(inj:D2 bit gs){x y x' y':ae}(hx:x∈gs)(hy:y∈gs)(hx':x'∈gs)(hy':y'∈gs)(e:2^bit x|||2^bit y=2^bit x'|||2^bit y'):(x=x'/\y=y')\/(x=y'/\y=x'):=by
 have e':aT bit [x,y]=aT bit [x',y']:=by simp only[aT,Nat.or_zero];exact e
 have k:=wK inj (l:=[x,y]) (m:=[x',y']) (by simp;exact⟨hx,hy⟩) (by simp;exact⟨hx',hy'⟩) e';have k1:=(k x).mp (by simp);have k2:=(k y).mp (by simp);have k3:=(k x').mpr (by simp);have k4:=(k y').mpr (by simp);simp only[List.mem_cons,List.not_mem_nil,or_false]at k1 k2 k3 k4;rcases k1 with a|a<;>rcases k2 with b|b
 ·subst a b;rcases k4 with h|h<;>exact .inl ⟨rfl,h.symm⟩
 ·exact .inl ⟨a,b⟩
 ·exact .inr ⟨a,b⟩
 ·subst a b;rcases k3 with h|h<;>exact .inl ⟨h.symm,rfl⟩
theorem Dg{kvs:List (dU×V)}{k:dU}{v:V}(h:bQ kvs k=some v):(k,v)∈kvs:=by unfold bQ at h;rw[Option.map_eq_some_iff]at h;obtain⟨kv,h1,h2⟩:=h;have:=List.mem_of_find?_eq_some h1;have e:=List.find?_some h1;simp at e;rw[<-e,<-h2];exact this
theorem lY{CP CT:Addr}{H:Hp}{T:Tb}{m:Bool->ae->Nat}(t:bX CP CT H T m){x y:ae}(hx:x∈T.gs)(hy:y∈T.gs){v:V}(h:bQ T.kvs (T.key x y)=some v):v=T.at (aq (bt x y))/\aq (bt x y)∈T.gs:=by
 obtain⟨x',hx',y',hy',z,hz,e,ez⟩:=t.sumK _ (Dg h);injection e with ek ev
 unfold Tb.key at ek;injection ek with ek
 rcases uX t.ok.inj hx hy hx' hy' (Int.ofNat_inj.mp ek)with⟨rfl,rfl⟩|⟨rfl,rfl⟩
 ·rw[<-ez];exact⟨ev,hz⟩
 ·rw[uT,<-ez];exact⟨ev,hz⟩
theorem DH{H:Hp}{a:Addr}{o:HO}(h:H a=some o):aI H a o=H:=by
 funext b;unfold aI;split
 ·rename_i e;rw[e,h]
 ·rfl
theorem AM{CP CT:Addr}{H:Hp}{T:Tb}{m:Bool->ae->Nat}(t:bX CP CT H T m){x y:ae}(hx:x∈T.gs)(hy:y∈T.gs){v:V}(h:bQ T.kvs (T.key x y)=some v):iS T.kvs (T.key x y) (T.at (aq (bt x y)))=T.kvs:=by
 unfold iS;rw[ff,h,if_pos (show(some v).isSome=true from rfl)];refine(List.map_congr_left (g:=id) fun kv hkv=>?_).trans (List.map_id _);by_cases e:kv.1=T.key x y
 ·rw[if_pos e];obtain⟨x',hx',y',hy',z,hz,ekv,ez⟩:=t.sumK _ hkv;rw[ekv]at e;have e2:=e;unfold Tb.key at e2;injection e2 with e2
  have:z=aq (bt x y):=by
   rcases uX t.ok.inj hx' hy' hx hy (Int.ofNat_inj.mp e2)with⟨rfl,rfl⟩|⟨rfl,rfl⟩
   ·exact ez
   ·rw[uT];exact ez
  rw[ekv,<-this];rfl
 ·rw[if_neg e];rfl
def ia(T:Tb)(x y:ae):Prop:=∃v,bQ T.kvs (T.key x y)=some v
theorem ia.ext{N:ae->Prop}{T T':Tb}(e:yD N T T'){x y:ae}(hx:x∈T.gs)(hy:y∈T.gs)(h:ia T x y):ia T' x y:=by obtain⟨v,h⟩:=h;refine⟨v,?_⟩;unfold Tb.key;rw[e.bit x hx,e.bit y hy];exact e.kv _ _ h
noncomputable def nI(d:Bool)(x y:ae):List ae:=(opt d x).map (fun o=>aq (bt o y))++(opt d y).map (fun o=>aq (bt x o))
def xg(c:Cl):Sp:=fun vs H Q _=>∃(T:Tb)(d:Bool)(x y:ae),vs=[.ref T.tb,.int (sd d),T.at x,T.at y]/\bP c.P c.T H T/\x∈T.gs/\y∈T.gs/\(∀o∈opt d x,ia T o y)/\(∀o∈opt d y,ia T x o)/\((∀z∈nI d x y,z∈T.gs)->∀l H',aB H H'->H' l=some (.lst ((nI d x y).map T.at))->Q (.ref l) H')
theorem Fq{ta tb:TE}{σ:St}{H:Hp}{D:bN}{p q:Addr}{xs ys:List V}(ha:aD ta σ H (.ref p))(hb:aD tb σ H (.ref q))(e1:H p=some (.lst xs))(e2:H q=some (.lst ys))(z:xs.length+ys.length<=sizeLine)(k:∀l,H l=none->D.rt (.ref l) (aI H l (.lst (xs++ys)))):ke (fB t_ ta tb) D σ H:=ha _ (hb _ ⟨p,q,xs,ys,rfl,rfl,e1,e2,z,k⟩)
def zU(c:Cl):Sp:=fun vs H Q E=>∃(T:Tb)(a b:ae),vs=[.ref T.tb,T.at a,T.at b]/\bP c.P c.T H T/\a∈T.gs/\b∈T.gs/\(∀T' H',jh c.P c.T (gL a b) T H T' H'->(∀u v,az u a->az v b->aq (bt u v)∈T'.gs)->Q (T'.at (aq (bt a b))) H')/\∀T' H',jh c.P c.T (gL a b) T H T' H'->sv (gL a b) T'->E (.ref c.nR) none H'
def Tb.note(T:Tb)(x y z:ae):Tb:={ T with kvs:=T.kvs++[(T.key x y,T.at z)] }
theorem CA{CP CT:Addr}{H:Hp}{T:Tb}(t:bP CP CT H T){x y z:ae}(hx:x∈T.gs)(hy:y∈T.gs)(hz:z∈T.gs)(ez:z=aq (bt x y))(hn:bQ T.kvs (T.key x y)=none):bP CP CT (aI H T.sd (.dK (T.kvs++[(T.key x y,T.at z)]))) (T.note x y z):=by
 have k:∀{b:Addr}{o:HO},H b=some o->o≠.dK T.kvs->aI H T.sd (.dK (T.kvs++[(T.key x y,T.at z)])) b=some o:=fun e n=>by rw[ai (cv e t.sum n)];exact e
 refine⟨t.ok,k t.tab (fun h=>by cases h),k t.lst (fun h=>by cases h),ah,?_,?_,fun u hu=>?_,t.agi,t.len,t.opt⟩
 ·intro kv hkv;rcases List.mem_append.mp hkv with h|h
  ·exact t.sumK kv h
  ·exact⟨x,hx,y,hy,z,hz,List.mem_singleton.mp h,ez⟩
 ·have:=Ay t.sumN (CG hn);show((T.kvs++[(T.key x y,T.at z)]).map (·.1)).Nodup;rw[List.map_append];exact this
 ·have p:=t.part u hu;exact⟨k p.obj (fun h=>by cases h),k p.rw (fun h=>by cases h),k p.ll (fun h=>by cases h),k p.rl (fun h=>by cases h),k p.rb (fun h=>by cases h),k p.ag (fun h=>by cases h)⟩
theorem CI{CP CT:Addr}{N:ae->Prop}{T0 T:Tb}{H0 H:Hp}(st:jh CP CT N T0 H0 T H){x y z:ae}(hx:x∈T.gs)(hy:y∈T.gs)(hz:z∈T.gs)(ez:z=aq (bt x y))(hn:bQ T.kvs (T.key x y)=none):jh CP CT N T0 H0 (T.note x y z) (aI H T.sd (.dK (T.kvs++[(T.key x y,T.at z)]))):=by
 refine st.trans ⟨CA st.tab hx hy hz ez hn,⟨rfl,rfl,fun _ h=>h,fun _ _=>rfl,fun _ _=>rfl,fun _ h=>.inl h,fun k v h=>?_⟩,fun b o e n=>?_,fun _ h=>.inl h,fun _ h=>.inl h,fun b h=>?_⟩
 ·show bQ (T.kvs++[(T.key x y,T.at z)]) k=some v;rw[je _ _ _ _ hn];by_cases e:k=T.key x y
  ·rw[e,hn]at h;cases h
  ·rw[if_neg e];exact h
 ·rw[ai fun h=>n (.inr (.inr (.inl h)))];exact e
 ·by_cases e:b=T.sd
  ·rw[e,ah]at h;cases h
  ·rw[ai e]at h;exact h
theorem zh{T:Tb}{x y z:ae}(hn:bQ T.kvs (T.key x y)=none):ia (T.note x y z) x y:=⟨T.at z,by show bQ (T.kvs++[(T.key x y,T.at z)]) (T.key x y)=_;rw[je _ _ _ _ hn,if_pos rfl]⟩
section
variable{P:Program}{w:World}{K:W.Frag}{mg:Str->Option Value}{base:Heap}{c:Cl}
set_option maxHeartbeats 4000000 in
theorem rO {f:Addr} {fd:FuncData} (F:dB K "sum_options" "sum_options" iY f fd) (tx:dc K mg c):bj P w K mg base (cH P w) 1 f fd ["table","side","x","y"] (xg c):=by
 refine F.ok0 nh (fun vs H Q E h=>?_) (fun cdv A outer s H vs Q E hr h=>?_)
 ·obtain⟨T,d,x,y,rfl,_⟩:=h;rfl
 ·obtain⟨T,d,x,y,rfl,t,hx,hy,nx,ny,q⟩:=h;have nd:=nh.nd;have hu:=nj hr;refine⟨_,af (cy (i:=4) (own:=[("option",6)]) rfl nd rfl rfl (dr rfl rfl rfl rfl) (oK K (cu K (fk K (pv 2)) (pv 1) (fun _ _=>rfl))) (bD rfl) (fun _ _ _ _ _=>jc 6 nd) (fun _ _ _ _ _=>c_) (fun _ _ _ _ _=>d6 hu (fk K (pv 0)) (aO oo (fk K (pv 6)) (fk K (pv 3))) (fun _ _=>rfl))) (af (cy (i:=5) (own:=[("option",6)]) rfl nd rfl rfl (dr rfl rfl rfl rfl) (oK K (cu K (fk K (pv 3)) (pv 1) (fun _ _=>rfl))) (bD rfl) (fun _ _ _ _ _=>jc 6 nd) (fun _ _ _ _ _=>c_) (fun _ _ _ _ _=>d6 hu (fk K (pv 0)) (aO oo (fk K (pv 2)) (fk K (pv 6))) (fun _ _=>rfl))) (ak (aN (aO i3 (pv 4) (pv 5))))),?_⟩;have inX:∀o∈opt d x,o∈T.gs:=t.ok.opts x hx d;have inY:∀o∈opt d y,o∈T.gs:=t.ok.opts y hy d;refine sq (kd (xs:=opt d x) (f:=T.at) (e:=fun o=>T.at (aq (bt o y))) (p:=fun _=>true) (iQ (d:=d) tx t hx yv yv) (aV.of (fg t hx)) (iq t hx) (fun o ho H' s=>n_.yes) (fun o ho _ H' s=>?_) (fun l1 H1 hl1 s1 e1=>?_))
  ·obtain⟨v,hv⟩:=nx o ho;have t1:=t.same s;rw[<-(lY t (inX o ho) hy hv).1];refine(aD.dget (rQ tx t1 yv) (.i0 (b_ tx t1 (inX o ho) yv) (b_ tx t1 hy yv)) ?_).s;rw[vJ,<-hv];exact gq.k (k:=T.key o y) t1.sum
  rw[bH]at e1;have t1:=t.same s1;dsimp only;refine sq (kd (xs:=opt d y) (f:=T.at) (e:=fun o=>T.at (aq (bt x o))) (p:=fun _=>true) (iQ (d:=d) tx t1 hy yv yv) (aV.of (fg t1 hy)) (iq t hy) (fun o ho H' s=>n_.yes) (fun o ho _ H' s=>?_) (fun l2 H2 hl2 s2 e2=>?_))
  ·obtain⟨v,hv⟩:=ny o ho;have t2:=t1.same s;rw[<-(lY t hx (inY o ho) hv).1];refine(aD.dget (rQ tx t2 yv) (.i0 (b_ tx t2 hx yv) (b_ tx t2 (inY o ho) yv)) ?_).s;rw[vJ,<-hv];exact gq.k (k:=T.key x o) t2.sum
  rw[bH]at e2;dsimp only;refine Fq yv yv (s2 _ _ e1) e2 ?_ fun l hl=>?_
  ·rw[List.length_map,List.length_map];exact Nat.le_trans (Nat.add_le_add (ee t hx) (ee t hy)) (by decide)
  ·refine q (fun z hz=>?_) l _ (iZ (s1.trans s2) hl) ?_
   ·rcases List.mem_append.mp hz with h|h
    ·obtain⟨o,ho,rfl⟩:=List.mem_map.mp h;obtain⟨v,hv⟩:=nx o ho;exact(lY t (inX o ho) hy hv).2
    ·obtain⟨o,ho,rfl⟩:=List.mem_map.mp h;obtain⟨v,hv⟩:=ny o ho;exact(lY t hx (inY o ho) hv).2
   ·rw[ah];unfold nI;rw[List.map_append,List.map_map,List.map_map];rfl
set_option maxHeartbeats 8000000 in
theorem xb {f:Addr} {fd:FuncData} (F:dB K "sum_form" "sum_form" nH f fd) (tx:dc K mg c) (mP:iV P w K mg base 1 c.T "parts_of" ["self","game"] (l9 c)) (gO:gX P w K mg base 1 "sum_options" ["table","side","x","y"] (xg c)) (mF:iV P w K mg base 5 c.T "form_of" ["self","lefts","rights"] (ku c)) :bj P w K mg base (cH P w) 6 f fd ["table","a","b"] (zU c):=by
 refine F.okX sh (fun vs H Q E h=>?_) (fun cdv A outer s H vs Q E hr L h=>?_)
 ·obtain⟨T,a,b,rfl,_⟩:=h;rfl
 ·obtain⟨T,a,b,rfl,t,ha,hb,mk⟩:=h;have nd:=sh.nd;have hu:=nj hr;have hr1:=hr.mono (show 1<=5 by decide);refine⟨_,af (du 3 nd (cf mP tx.clT hr1 bq (pv 0) (aa (pv 2) aj))) (af (cg L.pass L.calm (oK K (cf mP tx.clT hr1 bq (pv 0) (aa (pv 1) aj))) (jc 4 nd) (ak (cg L.pass L.calm (oK K (pv 3)) (jc 5 nd) (af (du 6 nd (aO oo (fk K (pv 4)) (fk K (pv 5)))) (ak (bC (B0 (uV hu (pv 6) (fk K (pv 0))) (by with_unfolding_all rfl)) (af (du 7 nd (bS gO hr1 bq (aa (pv 0) (aa (aL tx.LEFT) (aa (pv 4) (aa (pv 5) aj)))))) (af (du 8 nd (bS gO hr1 bq (aa (pv 0) (aa (aL tx.RIGHT) (aa (pv 4) (aa (pv 5) aj)))))) (ak (jI hu (fk K (pv 0)) (pv 6) (cf mF tx.clT hr L.passes (pv 0) (aa (pv 7) (aa (pv 8) aj))) rfl)))) a8)))))) (ak (aN (d6 hu (fk K (pv 0)) (aO oo (fk K (pv 1)) (fk K (pv 2))) (fun _ _=>rfl))))),?_⟩;refine sq (j1 yv t.tab rfl (.one yv) ⟨T,b,rfl,t,hb,fun lb H1 hlb s1 e1=>?_⟩);have t1:=t.same s1;dsimp only;refine sq (z8 yv t1.tab rfl (.one yv) ⟨T,a,rfl,t1,ha,fun la H2 hla s2 e2=>?_⟩);have s2':=s1.trans s2;have hlaH:H la=none:=s1.free hla;have pA:∀x∈T.partsIn a,x∈T.gs:=fun x hx=>(List.mem_filter.mp hx).1;have pB:∀x∈T.partsIn b,x∈T.gs:=fun x hx=>(List.mem_filter.mp hx).1;refine Ao (xs:=T.partsIn a) (f:=T.at) (fun i σ H3=>∃T3 v4 v5 v6 v7 v8,jh c.P c.T (gL a b) T H T3 H3/\σ=[some (.ref T3.tb),some (T.at a),some (T.at b),some (.ref lb),v4,v5,v6,v7,v8]/\H3 la=some (.lst ((T.partsIn a).map T.at))/\¬cx T3 la/\H3 lb=some (.lst ((T.partsIn b).map T.at))/\¬cx T3 lb/\∀x∈(T.partsIn a).take i,∀y∈T.partsIn b,ia T3 x y) (aV.of e2) ?_ ?_ ?_ ?_
  ·exact⟨T,none,none,none,none,none,.same t s2',rfl,e2,t.freshA hlaH,s2 _ _ e1,t.freshA hlb,fun x hx=>by simp at hx⟩
  ·rintro i σ H3 _ ⟨T3,v4,v5,v6,v7,v8,st,_,e,_⟩;exact aV.of e
  ·rintro i x σ H3 hx ⟨T3,v4,v5,v6,v7,v8,st,rfl,ea,na,eb,nb,hk⟩;have hxg:=pA x (List.mem_of_getElem? hx);refine t7 (xs:=T.partsIn b) (f:=T.at) yv (fun j σ H4=>∃T4 v5 v6 v7 v8,jh c.P c.T (gL a b) T H T4 H4/\σ=[some (.ref T4.tb),some (T.at a),some (T.at b),some (.ref lb),some (T.at x),v5,v6,v7,v8]/\H4 la=some (.lst ((T.partsIn a).map T.at))/\¬cx T4 la/\H4 lb=some (.lst ((T.partsIn b).map T.at))/\¬cx T4 lb/\(∀x∈(T.partsIn a).take i,∀y∈T.partsIn b,ia T4 x y)/\∀y∈(T.partsIn b).take j,ia T4 x y) (aV.of eb) ⟨T3,v5,v6,v7,v8,st,rfl,ea,na,eb,nb,hk,fun y hy=>by simp at hy⟩ (fun j σ H4 _⟨T4,_,_,_,_,_,_,_,_,e,_⟩=>aV.of e) ?_ ?_
   ·rintro j y σ H4 hy ⟨T4,v5,v6,v7,v8,st,rfl,ea,na,eb,nb,hk,hk2⟩;have hyg:=pB y (List.mem_of_getElem? hy);have hx4:=st.ext.sub x hxg;have hy4:=st.ext.sub y hyg;have ax:=st.ext.at hxg;have ay:=st.ext.at hyg;refine sq (fH (.i0 (b_ tx st.tab hx4 (by rw[ax];exact yv)) (b_ tx st.tab hy4 (by rw[ay];exact yv))) ?_);dsimp only;rw[vJ];refine DD (Yt.b (.dnotin (a:=T4.sd) yv (rQ tx st.tab yv) (gq.k (k:=T4.key x y) st.tab.sum))) (fun hb'=>?_) (fun hb'=>?_)
    ·have hn:bQ T4.kvs (T4.key x y)=none:=by
      cases h:bQ T4.kvs (T4.key x y)with
      |none=>rfl
      |some v=>rw[h]at hb';cases hb'
     have nX:∀{d:Bool},∀o∈opt d x,ia T4 o y:=fun o ho=>hk o (iH t ha hx ho) y (List.mem_of_getElem? hy);have nY:∀{d:Bool},∀o∈opt d y,ia T4 x o:=fun o ho=>hk2 o (iH t hb hy ho);rw[<-ax,<-ay];refine sq (d9 (.cons yv (.cons .c (.cons yv (.one yv)))) ⟨T4,false,x,y,rfl,st.tab,hx4,hy4,nX,nY,fun in1 l1 H5 s5 e5=>?_⟩);dsimp only;refine sq (d9 (.cons yv (.cons .c (.cons yv (.one yv)))) ⟨T4,true,x,y,rfl,st.tab.same s5,hx4,hy4,nX,nY,fun in2 l2 H6 s6 e6=>?_⟩);dsimp only;have s56:=s5.trans s6;have t6:=st.tab.same s56;refine Ca yv t6.tab rfl (.cons yv (.one yv)) ⟨T4,l1,l2,nI false x y,nI true x y,rfl,t6,s6 _ _ e5,e6,in1,in2,?_⟩;have eF:aq (.mk (nI false x y) (nI true x y))=aq (bt x y):=(o7 x y).symm;rw[eF];have hN:gL a b (aq (bt x y)):=⟨x,y,(b6 t ha).mp (List.mem_of_getElem? hx),(b6 t hb).mp (List.mem_of_getElem? hy),rfl⟩
     refine ef (st.then s56) (fun z h=>by rw[h];exact hN) mk.2 fun T7 H7 st7 stp hm=>?_;obtain⟨a1,a2⟩:=stp.own_all (s56 _ _ ea) na;obtain⟨b1,b2⟩:=stp.own_all (s56 _ _ eb) nb;have hx7:=stp.ext.sub x hx4;have hy7:=stp.ext.sub y hy4;have k7:T7.key x y=T4.key x y:=by unfold Tb.key;rw[stp.ext.bit x hx4,stp.ext.bit y hy4]
     have nla:la≠T7.sd:=fun h=>a2 (h▸.inl (.inr (.inr (.inl rfl))));have nlb:lb≠T7.sd:=fun h=>b2 (h▸.inl (.inr (.inr (.inl rfl))))
     have fin:∀T8 H8,jh c.P c.T (gL a b) T H T8 H8->yD (fun _=>True) T7 T8->T8.tb=T7.tb->H8 la=some (.lst ((T.partsIn a).map T.at))->¬cx T8 la->H8 lb=some (.lst ((T.partsIn b).map T.at))->¬cx T8 lb->ia T8 x y->∃T4' v5' v6' v7' v8',jh c.P c.T (gL a b) T H T4' H8/\[some (V.ref T4.tb),some (T.at a),some (T.at b),some (.ref lb),some (T4.at x),some (T4.at y),some (V.int ((2^T4.bit x|||2^T4.bit y:Nat):Int)),some (.ref l1),some (.ref l2)]=[some (.ref T4'.tb),some (T.at a),some (T.at b),some (.ref lb),some (T4.at x),v5',v6',v7',v8']/\H8 la=some (.lst ((T.partsIn a).map T.at))/\¬cx T4' la/\H8 lb=some (.lst ((T.partsIn b).map T.at))/\¬cx T4' lb/\(∀x∈(T.partsIn a).take i,∀y∈T.partsIn b,ia T4' x y)/\∀y∈(T.partsIn b).take (j+1),ia T4' x y:=by
      intro T8 H8 st8 ex8 e8 h1 h2 h3 h4 h5;refine⟨T8,_,_,_,_,st8,by rw[e8,stp.ext.tb],h1,h2,h3,h4,fun x' hx' y' hy'=>?_,fun y' hy'=>?_⟩
      ·have gx:=st.ext.sub x' (pA x' (List.mem_of_mem_take hx'));have gy:=st.ext.sub y' (pB y' hy');exact((hk x' hx' y' hy').ext stp.ext gx gy).ext ex8 (stp.ext.sub _ gx) (stp.ext.sub _ gy)
      ·rw[a7 hy,List.mem_append,List.mem_singleton]at hy';rcases hy' with hy'|rfl
       ·have gy:=st.ext.sub y' (pB y' (List.mem_of_mem_take hy'));exact((hk2 y' hy').ext stp.ext hx4 gy).ext ex8 hx7 (stp.ext.sub _ gy)
       ·exact h5
     refine C4 (k:=T4.key x y) (kvs:=T7.kvs) (rQ tx st7.tab (by rw[stp.ext.tb];exact yv)) yv st7.tab.sum (Nat.lt_of_le_of_lt st7.tab.kvs_len (by decide)) ?_;cases hv:bQ T7.kvs (T7.key x y)with
     |none=>
      rw[<-k7,sG _ hv];have st8:=CI st7 hx7 hy7 hm rfl hv
      exact fin _ _ st8 ⟨rfl,rfl,fun _ h=>h,fun _ _=>rfl,fun _ _=>rfl,fun _ h=>.inl h,fun k v h=>by
       show bQ (T7.kvs++[(T7.key x y,T7.at (aq (bt x y)))]) k=some v;rw[je _ _ _ _ hv];by_cases e:k=T7.key x y
       ·rw[e,hv]at h;cases h
       ·rw[if_neg e];exact h⟩ rfl (by rw[ai nla];exact a1) a2 (by rw[ai nlb];exact b1) b2 (zh hv)
     |some v=>rw[<-k7,AM st7.tab hx7 hy7 hv,DH st7.tab.sum];exact fin _ _ st7 (.refl _) rfl a1 a2 b1 b2 ⟨v,hv⟩
    ·have hn:ia T4 x y:=by
      cases h:bQ T4.kvs (T4.key x y)with
      |none=>rw[h]at hb';cases hb'
      |some v=>exact⟨v,h⟩
     refine⟨T4,_,_,_,_,st,rfl,ea,na,eb,nb,hk,fun y' hy'=>?_⟩;rw[a7 hy,List.mem_append,List.mem_singleton]at hy';rcases hy' with hy'|rfl
     ·exact hk2 y' hy'
     ·exact hn
   ·rintro σ H4 ⟨T4,v5,v6,v7,v8,st,rfl,ea,na,eb,nb,hk,hk2⟩;rw[List.take_length]at hk2;refine⟨T4,_,_,_,_,_,st,rfl,ea,na,eb,nb,fun x' hx' y hy=>?_⟩;rw[a7 hx,List.mem_append,List.mem_singleton]at hx';rcases hx' with hx'|rfl
    ·exact hk x' hx' y hy
    ·exact hk2 y hy
  ·rintro σ H3 ⟨T3,v4,v5,v6,v7,v8,st,rfl,ea,na,eb,nb,hk⟩;rw[List.take_length]at hk;obtain⟨v,hv⟩:=hk a ((b6 t ha).mpr .refl) b ((b6 t hb).mpr .refl);have ha3:=st.ext.sub a ha;have hb3:=st.ext.sub b hb;obtain⟨ev,hm⟩:=lY st.tab ha3 hb3 hv;dsimp only;refine iG (.dget (v:=T3.at (aq (bt a b))) (rQ tx st.tab yv) (.i0 (b_ tx st.tab ha3 (by rw[st.ext.at ha];exact yv)) (b_ tx st.tab hb3 (by rw[st.ext.at hb];exact yv))) ?_) (mk.1 T3 H3 st fun u v hu hv=>?_);rotate_left
   ·have hu':=(b6 t ha).mpr hu;have hv':=(b6 t hb).mpr hv;obtain⟨z,hz⟩:=hk u hu' v hv';exact(lY st.tab (st.ext.sub u (pA u hu')) (st.ext.sub v (pB v hv')) hz).2
   rw[vJ,<-ev,<-hv];exact gq.k (k:=T3.key a b) st.tab.sum
end
end Gp
namespace Gp
open PySem PySem.Spec L2 Gth Gw
open PyProof.Rows hiding St
def bI(b:Bytes):List V:=b.map fun u=>iN u.toNat
theorem hW(b:Bytes):(bI b).length=b.length:=List.length_map _
theorem yO(a b:Bytes):bI a++bI b=bI (a++b):=(List.map_append ..).symm
theorem FQ{n:Nat}(h:n<65536):bI (le2 n)=[iN (n&&&255),iN (n/2^8)]:=by
 unfold bI le2;have e1:n&&&255=n%256:=Nat.and_two_pow_sub_one_eq_mod n 8;have e2:(UInt8.ofNat (n%256)).toNat=n%256:=by rw[UInt8.toNat_ofNat'];omega
 have e3:(UInt8.ofNat (n/256%256)).toNat=n/2^8:=by rw[UInt8.toNat_ofNat'];omega
 simp only[List.map_cons,List.map_nil];rw[e2,e3,e1]
theorem vE {K:W.Frag} {r:V->List V->Hp->VK->Prop} {to:TE} {t:TA} {D:bN} {σ:St} {H:Hp} {p:Addr} {xs:List V} (ho:aD to σ H (.ref p)) (e:H p=some (.lst xs)) (h:t σ H fun vs H2=>r (.ref p) vs H2 fun _ H'=>D.nx σ H'):ka (Gq K "list" r to t) D σ H:=ho _ ⟨Ha e,h⟩
theorem FR {K:W.Frag} {r:V->List V->Hp->VK->Prop} {to:TE} {D:bN} {σ:St} {H:Hp} {i:Nat} {p:Addr} {xs:List V} (ho:aD to σ H (.ref p)) (e:H p=some (.lst xs)) (h:r (.ref p) [] H fun v H'=>D.nx (σ.set i (some v)) H'):fV (Gb K "list" r to) (bw i) D σ H:=ho _ ⟨Ha e,h⟩
theorem FI {K:W.Frag} {to te:TE} {D:bN} {σ:St} {H:Hp} {p:Addr} {xs ys:List V} (ho:aD to σ H (.ref p)) (e:H p=some (.lst xs)) (h:mY te σ H ys) (z:xs.length+ys.length<=sizeLine) (q:∀H',aB H H'->D.nx σ (aI H' p (.lst (xs++ys)))):ka (Gq K "list" Aq to (a_ te ck)) D σ H:=vE ho e (h _ fun r H' s e'=>⟨p,r,xs,ys,rfl,rfl,s _ _ e,e',z,q H' s⟩)
theorem Eh{A B:TE}{σ:St}{H:Hp}{D:bN}{i:Nat}{xs ys:List V}(hA:mY A σ H xs)(hB:∀H',aB H H'->mY B σ H' ys)(z:xs.length+ys.length<=sizeLine)(q:∀p H',aB H H'->H' p=none->D.nx (σ.set i (some (.ref p))) (aI H' p (.lst (xs++ys)))):fV (fB t_ A B) (bw i) D σ H:=hA _ fun p1 H1 s1 e1=>hB H1 s1 _ fun p2 H2 s2 e2=>⟨p1,p2,xs,ys,rfl,rfl,s2 _ _ e1,e2,z,fun p hp=>q p H2 (s1.trans s2) hp⟩
theorem DU{A B:TE}{σ:St}{H:Hp}{D:bN}{xs ys:List V}(hA:mY A σ H xs)(hB:∀H',aB H H'->mY B σ H' ys)(z:xs.length+ys.length<=sizeLine)(q:∀p H',aB H H'->H' p=none->D.rt (.ref p) (aI H' p (.lst (xs++ys)))):ke (fB t_ A B) D σ H:=hA _ fun p1 H1 s1 e1=>hB H1 s1 _ fun p2 H2 s2 e2=>⟨p1,p2,xs,ys,rfl,rfl,s2 _ _ e1,e2,z,fun p hp=>q p H2 (s1.trans s2) hp⟩
def Cc:Sp:=fun vs H Q _=>∃n:Nat,vs=[iN n]/\n<65536/\∀p,H p=none->Q (.ref p) (aI H p (.lst (bI (le2 n))))
theorem mY.two{te:TE}{σ:St}{H:Hp}{n:Nat}{E:XK}(h:aD te σ H (iN n))(z:n<65536):mY (fY Cc [] E (a_ te ck)) σ H (bI (le2 n)):=fun Q q=>h _ ⟨n,rfl,z,fun p hp=>q p _ (aW hp) ah⟩
def C_(c:Cl):Sp:=fun vs H Q _=>∃(T:Tb)(g:ae),vs=[T.at g]/\bP c.P c.T H T/\g∈T.gs/\∀l H',H l=none->aB H H'->H' l=some (.lst ((ao g).map T.at))->Q (.ref l) H'
def vn(c:Cl):Sp:=fun vs H Q _=>∃(T:Tb)(g:ae),vs=[T.at g]/\bP c.P c.T H T/\g∈T.gs/\∀l H',H l=none->aB H H'->H' l=some (.lst (bI (cD g)))->Q (.ref l) H'
theorem qT{t:TA}{σ:St}{H:Hp}{D:bN}{i:Nat}{xs:List V}(h:YA t σ H xs)(z:xs.length<=sizeLine)(q:∀p,H p=none->D.nx (σ.set i (some (.ref p))) (aI H p (.lst xs))):fV (nP t) (bw i) D σ H:=h _ ⟨z,q⟩
section
variable{P:Program}{w:World}{K:W.Frag}{mg:Str->Option Value}{base:Heap}{c:Cl}
theorem wt {f:Addr} {fd:FuncData} (F:dB K "two_bytes" "two_bytes" kW f fd) (tx:dc K mg c):bj P w K mg base (cH P w) 1 f fd ["number"] Cc:=by
 refine F.ok0 xu (fun vs H Q E h=>?_) (fun cdv A outer s H vs Q E hr h=>?_)
 ·obtain⟨n,rfl,_⟩:=h;rfl
 ·obtain⟨n,rfl,hn,q⟩:=h;refine⟨_,ak (aN (bb (aa (aO di (pv 0) aA) (aa (aO B1 (pv 0) aA) aj)))),?_⟩;refine wb (.cons (.i0 yv .c) (.one (.ic yv .c (by decide)))) (by show 2<=sizeLine;decide) fun p hp=>?_;have:=q p hp;rw[FQ hn]at this;have e1:Builtin.bitAnd ((n:Nat):Int) 255=((n&&&255:Nat):Int):=Cn n 255;have e2:((n:Nat):Int)/2^(8:Int).toNat=((n/2^8:Nat):Int):=by show((n:Nat):Int)/2^8=_;push_cast;rfl
  dsimp only;rw[e1,e2];exact this
set_option maxHeartbeats 4000000 in
theorem pT {f:Addr} {fd:FuncData} (F:dB K "parts_in_turn" "parts_in_turn" gk f fd) (tx:dc K mg c):bj P w K mg base (cH P w) 1 f fd ["form"] (C_ c):=by
 refine F.ok0 j5 (fun vs H Q E h=>?_) (fun cdv A outer s H vs Q E hr h=>?_)
 ·obtain⟨T,g,rfl,_⟩:=h;rfl
 ·obtain⟨T,g,rfl,t,hg,q⟩:=h;have nd:=j5.nd;refine⟨_,af (du 1 nd (bb aj)) (af (du 2 nd aA) (af (du 3 nd (bb (aa (pv 0) aj))) (af (kG PassesOwn.never (aK ow (aJ (gH K) (by rfl) tx.len PySem.boot_len (aa (pv 3) aj)) aA (aX _)) (af (du 4 nd (FX PySem.F.plainAttrs_list PySem.F.slot_list_pop PySem.F.type_list_pop Fz (pv 3))) (ak (bC (yN (cY K (aO di (fk K (pv 4)) (pv 2)))) (af (FH 2 nd (fk K (pv 4)) ir) (af (aR (ng PySem.F.plainAttrs_list PySem.F.slot_list_append PySem.F.type_list_append mM (pv 1) (aa (pv 4) aj))) (ak (aR (ng PySem.F.plainAttrs_list PySem.F.slot_list_extend PySem.F.type_list_extend js (pv 3) (aa (yJ rfl tx.list tx.reversed (aa (aO i3 (cu K (fk K (pv 4)) (aL tx.LEFT) (fun _ _=>rfl)) (cu K (fk K (pv 4)) (aL tx.RIGHT) (fun _ _=>rfl))) aj)) aj)))))) a8)))) (ak (aN (pv 1)))))),?_⟩;refine sq (qT .nil (Nat.zero_le _) fun l hl=>?_);dsimp only;refine sq (fH .c ?_);dsimp only;refine sq (qT (.one yv) (by show 1<=sizeLine;decide) fun lw hlw=>?_);dsimp only;have nlw:l≠lw:=au (ah (H:=H) (o:=HO.lst [])) hlw;have hlwH:H lw=none:=(aW hl).free hlw;refine sq ⟨fun m σ H'=>∃(S W:List ae)(v4:Option V),bg S W=ao g/\S.Nodup/\(∀x∈S,x∈T.gs)/\(∀x∈W,x∈T.gs)/\m+200*S.length=200*97+W.length/\m<=200*97+1/\σ=[some (T.at g),some (.ref l),some (iN (aT T.bit S)),some (.ref lw),v4]/\aB H H'/\H' l=some (.lst (S.map T.at))/\H' lw=some (.lst (W.reverse.map T.at)),⟨200*97+1,[],[g],none,xT g,List.nodup_nil,(fun _ h=>nomatch h),fun x hx=>by rw[List.mem_singleton.mp hx];exact hg,rfl,Nat.le_refl _,rfl,iZ (aW hl) hlw,by rw[ai nlw,ah];rfl,ah⟩,?_⟩;rintro m σ H1 ⟨S,W,v4,hv,hS,inS,inW,hm,hm2,rfl,s1,el,elw⟩;have t1:=t.same s1;have lS:S.length<=96:=Nat.le_trans (aC hS inS) t.len;refine Yt.b (aD.i0 (ta:=Ab (fun xs H Q=>∃p ys,xs=[.ref p]/\(aV K H p ys\/i6 K H p ys)/\Q (.int ys.length) H) (a_ (aZ 3) ck)) (tb:=tC (.int 0)) (g:=fun i j=>.bl (decide (j<i))) (.len (aD.one yv) (aV.of elw)) .c) _ ?_;cases W with
  |nil=>
   show if(false:Bool)=true then _ else _
   rw[if_neg (by decide)];have:S=ao g:=by rw[<-hv];rfl
   refine iG yv (q l H1 hl s1 (by rw[<-this];exact el))
  |cons x W=>
   rw[decide_eq_true (show(0:Int)<(((x::W).reverse.map T.at).length:Int) by rw[List.length_map,List.length_reverse,List.length_cons];omega),if_pos rfl];have hx:x∈T.gs:=inW x List.mem_cons_self;have lW:(x::W).length=W.length+1:=rfl;refine⟨fun σ' H'=>∃m',m'<m/\∃(S W:List ae)(v4:Option V),bg S W=ao g/\S.Nodup/\(∀x∈S,x∈T.gs)/\(∀x∈W,x∈T.gs)/\m'+200*S.length=200*97+W.length/\m'<=200*97+1/\σ'=[some (T.at g),some (.ref l),some (iN (aT T.bit S)),some (.ref lw),v4]/\aB H H'/\H' l=some (.lst (S.map T.at))/\H' lw=some (.lst (W.reverse.map T.at)),fun _ _ h=>h,?_⟩;refine sq (FR yv elw ⟨lw,_,T.at x,rfl,rfl,elw,?_,?_⟩)
   ·rw[List.reverse_cons,List.map_append,List.length_append];simp
   ·rw[List.reverse_cons,List.map_append,List.map_singleton,List.dropLast_concat];have s2:aB H (aI H1 lw (.lst (W.reverse.map T.at))):=fun b o e=>by rw[ai (au e hlwH)];exact s1 _ _ e
    have t2:=t.same s2;have el2:aI H1 lw (.lst (W.reverse.map T.at)) l=some (.lst (S.map T.at)):=by rw[ai nlw];exact el
    dsimp only;refine iD (b':=!bB (x∈S)) (Yt.not (Yt.n (aD.i0 (b_ tx t2 hx yv) yv))) (by rw[cz ((dh t.ok.inj hx inS).trans bu.symm)]) (fun hb=>?_) (fun hb=>?_)
    ·have hxS:x∉S:=fun h=>by rw[i5 h]at hb;cases hb
     refine sq (yX (b_ tx t2 hx yv) ?_);rw[vJ,lT];dsimp only;refine sq (sF yv el2 (.one yv) ⟨l,_,_,rfl,rfl,el2,by rw[List.length_map];exact Nat.lt_of_le_of_lt lS (by decide),?_⟩);rw[show S.map T.at++[T.at x]=(S++[x]).map T.at by rw[List.map_append];rfl];have s3:aB H (aI (aI H1 lw (.lst (W.reverse.map T.at))) l (.lst ((S++[x]).map T.at))):=fun b o e=>by rw[ai (au e hl)];exact s2 _ _ e
     have t3:=t.same s3;have elw3:aI (aI H1 lw (.lst (W.reverse.map T.at))) l (.lst ((S++[x]).map T.at)) lw=some (.lst (W.reverse.map T.at)):=by rw[ai (Ne.symm nlw),ah]
     have lo:x.left.length+x.right.length<=192:=Nat.add_le_add (ee t hx (d:=false)) (ee t hx (d:=true));dsimp only;refine vE yv elw3 (iQ (d:=false) tx t3 hx yv .c _ (iQ (d:=true) tx t3 hx yv .c _ ⟨_,_,_,_,rfl,rfl,fg t3 hx,fg t3 hx,?_,fun p hp=>⟨p,_,rfl,aV.of ah,fun r hr'=>⟨lw,r,W.reverse.map T.at,_,rfl,rfl,?_,ah,?_,?_⟩⟩⟩))
     ·rw[List.length_map,List.length_map];exact Nat.le_trans lo (by decide)
     ·rw[ai,ai (au elw3 hp)]
      ·exact elw3
      ·exact au (by rw[ai (au elw3 hp)];exact elw3) hr'
     ·rw[List.length_reverse,List.length_append,List.length_map,List.length_map,List.length_map,List.length_reverse];have:W.length<=200*97+1+200*96:=by omega
      exact Nat.le_trans (Nat.add_le_add this lo) (by decide)
     ·have hn:(S++[x]).Nodup:=by rw[List.nodup_append];exact⟨hS,List.nodup_cons.mpr ⟨List.not_mem_nil,List.nodup_nil⟩,fun a ha b hb e=>by rw[List.mem_singleton.mp hb]at e;exact hxS (e▸ha)⟩
      have ins:∀y∈S++[x],y∈T.gs:=fun y hy=>(List.mem_append.mp hy).elim (inS y) fun h=>by rw[List.mem_singleton.mp h];exact hx
      have lS':=Nat.le_trans (aC hn ins) t.len;rw[List.length_append,List.length_singleton]at lS';refine⟨m-200+(x.left.length+x.right.length)-1,by omega,S++[x],x.left++x.right++W,_,(A8 hxS).symm.trans hv,hn,ins,fun y hy=>?_,?_,by omega,rfl,fun b o e=>?_,?_,?_⟩
      ·rcases List.mem_append.mp hy with h|h
       ·exact(List.mem_append.mp h).elim (t.ok.opts x hx false y) (t.ok.opts x hx true y)
       ·exact inW y (List.mem_cons_of_mem _ h)
      ·rw[List.length_append,List.length_append,List.length_append,List.length_singleton];omega
      ·rw[ai (au e hlwH),ai,ai (au (s3 _ _ e) hp)]
       ·exact s3 _ _ e
       ·exact au (by rw[ai (au (s3 _ _ e) hp)];exact s3 _ _ e) hr'
      ·have e0:aI (aI H1 lw (.lst (W.reverse.map T.at))) l (.lst ((S++[x]).map T.at)) l=some (.lst ((S++[x]).map T.at)):=ah;rw[ai nlw,ai,ai (au e0 hp)]
       ·exact e0
       ·exact au (by rw[ai (au e0 hp)];exact e0) hr'
      ·rw[ah];simp[List.reverse_append,List.map_append,List.map_reverse]
    ·have hxS:x∈S:=by
      cases h:bB (x∈S)with
      |true=>exact bu.mp h
      |false=>rw[h]at hb;cases hb
     exact⟨m-1,by omega,S,W,_,(A5 hxS).symm.trans hv,hS,inS,fun y hy=>inW y (List.mem_cons_of_mem _ hy),by omega,by omega,rfl,s2,el2,ah⟩
set_option maxHeartbeats 4000000 in
theorem xl {f:Addr} {fd:FuncData} (F:dB K "bytes_of" "bytes_of" n6 f fd) (tx:dc K mg c) (gP:gX P w K mg base 1 "parts_in_turn" ["form"] (C_ c)) (gT:gX P w K mg base 1 "two_bytes" ["number"] Cc):bj P w K mg base (cH P w) 2 f fd ["form"] (vn c):=by
 refine F.ok0 sY (fun vs H Q E h=>?_) (fun cdv A outer s H vs Q E hr h=>?_)
 ·obtain⟨T,g,rfl,_⟩:=h;rfl
 ·obtain⟨T,g,rfl,t,hg,q⟩:=h;have nd:=sY.nd;have hu:=nj hr;refine⟨_,af (du 1 nd (bS gP hr bq (aa (pv 0) aj))) (af (du 2 nd ig) (af (cg PassesOwn.never rfl (z7 (by rfl) tx.enumerate (aa (pv 1) aj)) (ze rfl (jg (jc 3 nd) (jg (jc 4 nd) u5))) (ak (jI hu (pv 2) (fk K (pv 4)) (pv 3) rfl))) (af (du 5 nd (aO i3 (bb (aa (aL tx.FIRST_BYTE) aj)) (bS gT hr bq (aa (aJ (gH K) (by rfl) tx.len PySem.boot_len (aa (pv 1) aj)) aj)))) (af (cg PassesOwn.never rfl (oK K (pv 1)) (jc 4 nd) (af (aR (ng PySem.F.plainAttrs_list PySem.F.slot_list_extend PySem.F.type_list_extend js (pv 5) (aa (bS gT hr bq (aa (aJ (gH K) (by rfl) tx.len PySem.boot_len (aa (cu K (fk K (pv 4)) (aL tx.LEFT) (fun _ _=>rfl)) aj)) aj)) aj))) (af (aR (ng PySem.F.plainAttrs_list PySem.F.slot_list_extend PySem.F.type_list_extend js (pv 5) (aa (bS gT hr bq (aa (aJ (gH K) (by rfl) tx.len PySem.boot_len (aa (cu K (fk K (pv 4)) (aL tx.RIGHT) (fun _ _=>rfl)) aj)) aj)) aj))) (ak (cg PassesOwn.never rfl (oK K (aO i3 (cu K (fk K (pv 4)) (aL tx.LEFT) (fun _ _=>rfl)) (cu K (fk K (pv 4)) (aL tx.RIGHT) (fun _ _=>rfl)))) (jc 6 nd) (ak (aR (ng PySem.F.plainAttrs_list PySem.F.slot_list_extend PySem.F.type_list_extend js (pv 5) (aa (bS gT hr bq (aa (d6 hu (pv 2) (fk K (pv 6)) (fun _ _=>rfl)) aj)) aj))))))))) (ak (aN (pv 5))))))),?_⟩;refine sq (d9 (.one yv) ⟨T,g,rfl,t,hg,fun l H1 hl s1 e1=>?_⟩);dsimp only;have inP:∀x∈ao g,x∈T.gs:=fun x hx=>t.ok.part hg (aP.mp hx);have ndP:(ao g).Nodup:=(fy g).1;have lP:(ao g).length<=96:=Nat.le_trans (aC ndP inP) t.len;refine sq (mE fun dp hdp=>?_);have hdpH:H dp=none:=s1.free hdp;have s2:aB H (aI H1 dp (.dK [])):=iZ s1 hdp;dsimp only;refine sq (z_ (a:=l) (xs:=ao g) (f:=T.at) (.one yv) (fun i σ H'=>∃v3 v4 kvs,σ=[some (T.at g),some (.ref l),some (.ref dp),v3,v4,none,none]/\aB H H'/\H' l=some (.lst ((ao g).map T.at))/\H' dp=some (.dK kvs)/\kvs.length<=i/\∀j x,j<i->(ao g)[j]?=some x->bQ kvs (.inl ((2^T.bit x:Nat):Int))=some (iN j)) (aV.of (by rw[ai (au e1 hdp)];exact e1)) ⟨none,none,[],rfl,s2,by rw[ai (au e1 hdp)];exact e1,ah,Nat.le_refl _,fun j x h=>by omega⟩ ?_ ?_ ?_)
  ·rintro i σ H' _ ⟨_,_,_,_,_,e,_⟩;exact aV.of e
  ·rintro i x σ H' hx ⟨v3,v4,kvs,rfl,s3,el,ed,lk,k1⟩ U hU;have hxm:=inP x (List.mem_of_getElem? hx);have s4:=iZ s3 (o:=HO.tup [iN i,T.at x]) hU;have hil:i<96:=Nat.lt_of_lt_of_le (List.getElem?_eq_some_iff.mp hx).1 lP;have ldp:l≠dp:=cv el ed fun h=>by cases h
   refine Av (k:=.inl ((2^T.bit x:Nat):Int)) (kvs:=kvs) yv yv (b_ tx (t.same s4) hxm yv) (by rw[ai (au ed hU)];exact ed) (Nat.lt_of_le_of_lt lk (Nat.lt_trans hil (by decide))) ?_;refine⟨_,_,_,rfl,fun b o e=>?_,?_,ah,Nat.le_trans (eK _ _ _) (by omega),fun j y hj hy=>?_⟩
   ·rw[ai (au e hdpH)];exact s4 _ _ e
   ·rw[ai ldp,ai (au el hU)];exact el
   ·rw[oF];by_cases e:y=x
    ·subst e;rw[if_pos rfl,wM ndP hy hx]
    ·rw[if_neg,k1 j y ?_ hy]
     ·have:j≠i:=fun ej=>by rw[ej,hx]at hy;cases hy;exact e rfl
      omega
     ·intro h;injection h with h
      exact e (t.ok.inj y (inP y (List.mem_of_getElem? hy)) x hxm ((Nat.pow_right_inj (by decide)).mp (Int.ofNat_inj.mp h)))
  rintro σ H2 ⟨v3,v4,kvs,rfl,s3,el,ed,lk,k1⟩;have hk:∀x∈ao g,bQ kvs (.inl ((2^T.bit x:Nat):Int))=some (iN (bW (ao g) x)):=fun x hx=>k1 _ x (cU hx).2 (cU hx).1;dsimp only;refine sq (Eh (.new (.one .c) (by show 1<=sizeLine;decide)) (fun H' s=>.two (.len (aD.one yv) (aV.of (s _ _ el))) (by rw[List.length_map];exact Nat.lt_of_le_of_lt lP (by decide))) (by show 3<=sizeLine;decide) fun lt H4 s45 hlt=>?_);have hltH:H2 lt=none:=s45.free hlt;have s6:aB H2 (aI H4 lt (.lst ([V.int 71]++bI (le2 ((ao g).map T.at).length)))):=iZ s45 hlt;have e0:[V.int 71]++bI (le2 ((ao g).map T.at).length)=bI (MARK::le2 (ao g).length):=by rw[List.length_map];rfl
  rw[e0]at s6⊢;dsimp only;refine sq (t7 (xs:=ao g) (f:=T.at) yv (fun i σ H'=>∃v4 v6,σ=[some (T.at g),some (.ref l),some (.ref dp),v3,v4,some (.ref lt),v6]/\aB H2 H'/\H' lt=some (.lst (bI (MARK::(le2 (ao g).length++((ao g).take i).flatMap (bA (ao g))))))) (aV.of (s6 _ _ el)) ⟨v4,none,rfl,s6,by rw[ah,List.take_zero,List.flatMap_nil,List.append_nil]⟩ (fun i σ H' _⟨_,_,_,s,_⟩=>aV.of (s _ _ el)) ?_ ?_)
  ·rintro i x σ H5 hx ⟨v4',v6,rfl,s7,et⟩;have hxm:=inP x (List.mem_of_getElem? hx);have hil:i<96:=Nat.lt_of_lt_of_le (List.getElem?_eq_some_iff.mp hx).1 lP;have lx:∀d,(opt d x).length<=96:=fun d=>ee t hxm;have tt:∀{H'},aB H2 H'->bP c.P c.T H' T:=fun s=>t.same (s3.trans s)
   have sz:(MARK::(le2 (ao g).length++((ao g).take i).flatMap (bA (ao g)))).length<=3+96*400:=by
    have h1:(((ao g).take i).flatMap (bA (ao g))).length<=((ao g).take i).length*400:=jl fun y hy=>by have hym:=inP y (List.mem_of_mem_take hy);have a:=ee t hym (d:=false);have b:=ee t hym (d:=true);have h2:((y.left++y.right).flatMap fun z=>le2 (bW (ao g) z)).length<=(y.left++y.right).length*2:=jl fun z _=>Nat.le_refl _;rw[List.length_append]at h2;unfold bA;rw[List.length_append,List.length_append];have e1:(le2 y.left.length).length=2:=rfl;have e2:(le2 y.right.length).length=2:=rfl;rw[qo]at a;rw[qf]at b;omega
    rw[List.length_take]at h1;rw[List.length_cons,List.length_append];have e1:(le2 (ao g).length).length=2:=rfl;have:min i (ao g).length*400<=96*400:=Nat.mul_le_mul_right _ (by omega);omega
   generalize hB:(MARK::(le2 (ao g).length++((ao g).take i).flatMap (bA (ao g))))=B at et sz;have upt:∀{H':Hp}{o:HO},aB H2 H'->aB H2 (aI H' lt o):=fun s b u e=>by rw[ai (au e hltH)];exact s _ _ e
   refine sq (FI yv et (.two (.len (aD.one (iQ (d:=false) tx (tt s7) hxm yv .c)) (aV.of (fg (tt s7) hxm))) (by rw[List.length_map];exact Nat.lt_of_le_of_lt (lx false) (by decide))) ?_ fun H6 s8=>?_)
   ·rw[hW,hW];exact Nat.le_trans (Nat.add_le_add sz (Nat.le_refl 2)) (by decide)
   rw[yO,List.length_map];have s9:=upt (o:=.lst (bI (B++le2 (opt false x).length))) (s7.trans s8);dsimp only;refine sq (FI yv ah (.two (.len (aD.one (iQ (d:=true) tx (tt s9) hxm yv .c)) (aV.of (fg (tt s9) hxm))) (by rw[List.length_map];exact Nat.lt_of_le_of_lt (lx true) (by decide))) ?_ fun H7 s10=>?_)
   ·rw[hW,hW,List.length_append];exact Nat.le_trans (Nat.add_le_add (Nat.add_le_add sz (Nat.le_refl 2)) (Nat.le_refl 2)) (by decide)
   rw[yO,List.length_map];have s11:=upt (o:=.lst (bI (B++le2 (opt false x).length++le2 (opt true x).length))) (s9.trans s10);have t11:=tt s11;dsimp only;refine CQ (f:=T.at) (ys:=opt false x) (zs:=opt true x) (iQ (d:=false) tx t11 hxm yv .c) (iQ (d:=true) tx t11 hxm yv .c) (fg t11 hxm) (fg t11 hxm) (Nat.le_trans (Nat.add_le_add (lx false) (lx true)) (by decide)) (fun lo j σ H'=>∃v6,σ=[some (T.at g),some (.ref l),some (.ref dp),v3,some (T.at x),some (.ref lt),v6]/\aB H2 H'/\H2 lo=none/\lo≠lt/\H' lo=some (.lst ((opt false x++opt true x).map T.at))/\H' lt=some (.lst (bI (B++le2 (opt false x).length++le2 (opt true x).length++((opt false x++opt true x).take j).flatMap fun y=>le2 (bW (ao g) y))))) ?_ ?_ ?_ ?_
   ·intro lo hlo;have n:lo≠lt:=fun e=>by rw[e,ah]at hlo;cases hlo
    exact⟨v6,rfl,iZ s11 hlo,s11.free hlo,n,ah,by rw[ai (Ne.symm n),ah,List.take_zero,List.flatMap_nil,List.append_nil]⟩
   ·rintro lo j σ H' ⟨_,_,_,_,_,e,_⟩;exact e
   ·rintro lo j y σ H8 hy ⟨v6',rfl,s12,hlo,nlo,elo,et8⟩
    have hyx:y∈ao g:=by
     have hxp:=List.mem_of_getElem? hx;rcases List.mem_append.mp (List.mem_of_getElem? hy)with h|h
     ·exact cB x hxp false y h
     ·exact cB x hxp true y h
    have hjl:=(List.getElem?_eq_some_iff.mp hy).1;rw[List.length_append]at hjl;have l0:=lx false;have l1:=lx true;refine FI yv et8 (.two (.dget yv (b_ tx (tt s12) (inP y hyx) yv) (by rw[<-hk y hyx];exact gq.k (k:=Sum.inl ((2^T.bit y:Nat):Int)) (s12 _ _ ed))) (Nat.lt_of_lt_of_le (cU hyx).2 (Nat.le_trans lP (by decide)))) ?_ fun H9 s13=>?_
    ·rw[hW,hW,List.length_append,List.length_append,List.length_append];have h2:(((opt false x++opt true x).take j).flatMap fun z=>le2 (bW (ao g) z)).length<=((opt false x++opt true x).take j).length*2:=jl fun z _=>Nat.le_refl _;rw[List.length_take,List.length_append]at h2;have e1:∀n,(le2 n).length=2:=fun _=>rfl;rw[e1,e1,e1];exact Nat.le_trans (show _<=3+96*400+2+2+400+2 by omega) (by decide)
    ·rw[yO,List.append_assoc _ _ (le2 (bW (ao g) y))];refine⟨_,rfl,upt (s12.trans s13),hlo,nlo,by rw[ai nlo];exact s13 _ _ elo,?_⟩;rw[ah,a7 hy,List.flatMap_append,List.flatMap_singleton]
   ·rintro lo σ H8 ⟨v6',rfl,s12,hlo,nlo,elo,et8⟩;rw[List.take_length]at et8;refine⟨_,_,rfl,s12,?_⟩;have eB:MARK::(le2 (ao g).length++((ao g).take (i+1)).flatMap (bA (ao g)))=B++bA (ao g) x:=by rw[<-hB,a7 hx,List.flatMap_append (xs:=(ao g).take i),List.flatMap_singleton,List.cons_append,List.append_assoc]
    rw[et8,eB];unfold bA;rw[<-List.append_assoc,<-List.append_assoc];rfl
  ·rintro σ H5 ⟨v4',v6,rfl,s7,et⟩;rw[List.take_length]at et;dsimp only;exact iG yv (q lt H5 (s3.free hltH) (s3.trans s7) et)
end
structure Hy(J:It)(n:Nat)(f:Nat->V):Prop where
 go:∀i H,i<n->J.go i H
 yld:∀i H x H',J.yld i H x H'->H'=H/\x=f i
 stop:∀H,J.stop n H
theorem GN(lo c:Int)(n:Nat):Hy (GV lo c n) n fun i=>.int (lo+(i:Nat)*c):=⟨fun _ _ h=>h,fun _ _ _ _ h=>h,fun _=>Nat.le_refl _⟩
theorem rW{n i:Nat}(h:i<n):(List.range n).take (i+1)=(List.range n).take i++[i]:=a7 (by rw[List.getElem?_range h])
theorem HE{J:It}{n:Nat}{f e:Nat->V}{p:Nat->Bool}{v:Nat}{tt:TT}{te:TE}{σ:St}{H:Hp}{Q:VK}(hJ:Hy J n f)(hz:n<=sizeLine) (ht:∀i,i<n->∀H',aB H H'->n_ tt ((b8 σ [v]).set v (some (f i))) H' (p i)) (he:∀i,i<n->p i=true->∀H',aB H H'->BM te ((b8 σ [v]).set v (some (f i))) H' (e i)) (hd:∀D H',H D=none->aB H H'->H' D=some (.lst (((List.range n).filter p).map e))->Q (.ref D) H') :∀D,H D=none->∃W:Nat->Nat->Hp->Prop,(∃m,W 0 m (aI H D (.lst [])))/\∀i m H,W i m H->(J.stop i H/\Q (.ref D) H)\/(J.go i H/\∃Nx:Hp->Prop,(∀H',Nx H'->∃m',m'<m/\W (i+1) m' H')/\∀x H',J.yld i H x H'->bw v x (b8 σ [v]) H' fun σ2 H2=>b8 σ2 [v]=b8 σ [v]/\tt σ2 H2 fun b H3=>
    if b=true then te σ2 H3 fun y H4=>∃acc,H4 D=some (.lst acc)/\acc.length<sizeLine/\Nx (aI H4 D (.lst (acc++[y])))else Nx H3):=by
 intro D hD;refine⟨fun i m H'=>m=n-i/\i<=n/\aB H H'/\H' D=some (.lst ((((List.range n).take i).filter p).map e)),⟨n,by simp,Nat.zero_le _,aW hD,by rw[ah];rfl⟩,?_⟩;rintro i m H1 ⟨rfl,hi,s,hDl⟩;by_cases c:i<n
 ·refine .inr ⟨hJ.go i H1 c,fun H'=>aB H H'/\H' D=some (.lst ((((List.range n).take (i+1)).filter p).map e)),fun H' q=>⟨n-(i+1),by omega,rfl,by omega,q.1,q.2⟩,fun x H' y=>?_⟩;obtain⟨rfl,rfl⟩:=hJ.yld i H1 x H' y;refine⟨sA,ht i c H' s _ fun H2 s2=>?_⟩;cases hp:p i with
  |true=>
   rw[if_pos rfl];refine he i c hp H2 (s.trans s2) _ fun H3 s3=>⟨_,s3 _ _ (s2 _ _ hDl),?_,?_,?_⟩
   ·rw[List.length_map];have:=List.length_filter_le p ((List.range n).take i);rw[List.length_take]at this;omega
   ·intro b o eb;rw[ai (au eb hD)];exact s3 _ _ (s2 _ _ (s _ _ eb))
   ·rw[ah,rW c,List.filter_append,List.map_append,List.filter_cons,if_pos hp];rfl
  |false=>rw[if_neg (by decide)];refine⟨s.trans s2,?_⟩;rw[rW c,List.filter_append,List.filter_cons,if_neg (by rw[hp];decide),List.filter_nil,List.append_nil];exact s2 _ _ hDl
 ·have e:i=n:=by omega
  subst e;refine .inl ⟨hJ.stop H1,hd D H1 hD s ?_⟩;rw[hDl,List.take_of_length_le (by rw[List.length_range];exact Nat.le_refl _)]
def nL(b:Bytes):Nat:=(b.length-1)/2
def nAt(b:Bytes)(i:Nat):Nat:=Gw.numAt b (1+2*i)
def nums(b:Bytes):List Nat:=(List.range (nL b)).map (nAt b)
theorem Ci(b:Bytes):(nums b).length=nL b:=by unfold nums;rw[List.length_map,List.length_range]
theorem rq{b:Bytes}{i:Nat}(h:i<nL b):(nums b)[i]?=some (nAt b i):=by unfold nums;rw[List.getElem?_map,List.getElem?_range h];rfl
theorem Df{b:Bytes}{z:Int}{j:Nat}(e:z=(j:Int))(h:j<b.length):wL (bI b) z=some (iN (b.getD j 0).toNat):=by refine oi e ?_;unfold bI;rw[List.getElem?_map,List.getElem?_eq_getElem h,List.getD_eq_getElem?_getD,List.getElem?_eq_getElem h];rfl
theorem B8{l:List Nat}{z:Int}{j v:Nat}(e:z=(j:Int))(h:l[j]?=some v):wL (l.map iN) z=some (iN v):=oi e (by rw[List.getElem?_map,h];rfl)
def rN(b:Bytes):Prop:=3<=b.length/\b.length%2=1/\b.headD 0=MARK
def CV(c:Cl):Sp:=fun vs H Q E=>∃(l:Addr)(b:Bytes),vs=[.ref l]/\H l=some (.lst (bI b))/\b.length<=5000/\(rN b->∀p H',aB H H'->H' p=some (.lst ((nums b).map iN))->Q (.ref p) H')/\(¬rN b->E (.ref c.nG) none H)
theorem HQ(n:Nat)(h:n<=5000)(o:n%2=1):HN 1 (n:Int) 2 ((n-1)/2):=by
 have e:Builtin.Range.rangeSize 1 (n:Int) 2=(((n-1)/2:Nat):Int):=by unfold Builtin.Range.rangeSize;rw[if_pos (by decide)];split<;>omega
 refine⟨by decide,by decide,?_,e⟩;unfold Builtin.Range.small;rw[e];have f:∀z:Int,-(2^62)<=z->z<2^62->Builtin.Range.rangeFitsLong z=true:=fun z a b=>by unfold Builtin.Range.rangeFitsLong;rw[Bool.and_eq_true,decide_eq_true_iff,decide_eq_true_iff];omega
 rw[f 1 (by decide) (by decide),f n (by omega) (by omega),f 2 (by decide) (by decide),f _ (by omega) (by omega),if_pos (by decide),f _ (by omega) (by omega),Bool.or_true];rfl
section
variable{P:Program}{w:World}{K:W.Frag}{mg:Str->Option Value}{base:Heap}{c:Cl}
theorem FJ{J:It}{wi:TI}{n:Nat}{f e:Nat->V}{p:Nat->Bool}{v:Nat}{tt:TT}{te:TE}{σ:St}{H:Hp}{D:bN}(h:wi σ H fun J H1=>∀D',H1 D'=none->∃W:Nat->Nat->Hp->Prop,(∃m,W 0 m (aI H1 D' (.lst [])))/\∀i m H,W i m H->(J.stop i H/\D.rt (.ref D') H)\/(J.go i H/\∃Nx:Hp->Prop,(∀H',Nx H'->∃m',m'<m/\W (i+1) m' H')/\∀x H',J.yld i H x H'->bw v x (b8 σ [v]) H' fun σ2 H2=>b8 σ2 [v]=b8 σ [v]/\tt σ2 H2 fun b H3=>if b=true then te σ2 H3 fun y H4=>∃acc,H4 D'=some (.lst acc)/\acc.length<sizeLine/\Nx (aI H4 D' (.lst (acc++[y])))else Nx H3)):ke (Ah wi (bw v) tt te [v]) D σ H:=h
theorem tX {f:Addr} {fd:FuncData} (F:dB K "numbers_of" "numbers_of" jM f fd) (tx:dc K mg c):bj P w K mg base (cH P w) 1 f fd ["text"] (CV c):=by
 refine F.okX oI (fun vs H Q E h=>?_) (fun cdv A outer s H vs Q E hr L h=>?_)
 ·obtain⟨l,b,rfl,_⟩:=h;rfl
 ·obtain⟨l,b,rfl,hl,hb,q1,q2⟩:=h;have nd:=oI.nd;refine⟨_,af (bC (uU (aK uw (aJ (gH K) (by rfl) tx.len PySem.boot_len (aa (pv 0) aj)) aA (aX _)) (uU (aK d5 (aO Fc (aJ (gH K) (by rfl) tx.len PySem.boot_len (aa (pv 0) aj)) aA) aA (aX _)) (rB (aK Cz (ba K (pv 0) aA (fun _ _=>rfl)) (aL tx.FIRST_BYTE) (aX _))))).pt (ak (cN L (by rfl) tx.xnG)) a8) (ak (aN (sO (own:=[("place",1)]) L.calm nd (BH (by rfl) tx.range (aa aA (aa (aJ (gH K) (by rfl) tx.len PySem.boot_len (aa (pv 0) aj)) (aa aA aj)))) (bD rfl) (fun _ _ _ _ _=>jc 1 nd) (fun _ _ _ _ _=>c_) (fun _ _ _ _ _=>aO gv (ba K (pv 0) (pv 1) (fun _ _=>rfl)) (aO zw aA (ba K (pv 0) (aO gv (pv 1) aA) (fun _ _=>rfl))))))),?_⟩;have h0:∀(x:Bool),decide (((bI b).length:Int)<3)=false->aD (fB (kh K) (aZ 0) (tC (.int 0))) (start ["text","place"] [.ref l]) H (iN (b.getD 0 0).toNat):=fun x h=>.ixL yv .c (aV.of hl) (Df (j:=0) rfl (by have:=of_decide_eq_false h;rw[hW]at this;omega));refine sq (iD (b':=bB (¬rN b)) (Yt.or (Yt.b (aD.i0 (.len (aD.one yv) (aV.of hl)) .c)) (fun ha=>Yt.or (Yt.b (aD.eq (aD.ic (.len (aD.one yv) (aV.of hl)) .c (by decide)) .c)) (fun _=>Yt.b (aD.ne (h0 true ha) .c)))) ?_ (fun h=>?_) (fun h=>?_))
  ·refine Bool.eq_iff_iff.mpr ?_;rw[bu,Bool.or_eq_true,Bool.or_eq_true,hW,Bool.not_eq_true',decide_eq_true_iff,decide_eq_true_iff,decide_eq_false_iff_not];unfold rN;have e:b.headD 0=b.getD 0 0:=by cases b<;>rfl
   have e2:((b.getD 0 0).toNat:Int)=71↔b.getD 0 0=MARK:=by
    constructor
    ·intro h;apply UInt8.toNat_inj.mp;have:(b.getD 0 0).toNat=71:=by omega
     rw[this];rfl
    ·intro h;rw[h];rfl
   rw[e,e2];constructor
   ·rintro(h|h|h) ⟨a1,a2,a3⟩
    ·omega
    ·omega
    ·exact h a3
   ·intro h;by_cases c1:b.length<3
    ·left;omega
    ·by_cases c2:b.length%2=1
     ·right;right;exact fun h3=>h ⟨by omega,c2,h3⟩
     ·right;left;omega
  ·exact q2 (bu.mp h)
  ·have hk:rN b:=Classical.byContradiction fun h'=>by rw[i5 h']at h;cases h
   dsimp only[cO];refine FJ (J:=GV 1 2 (nL b)) (n:=0) (f:=fun _=>.non) (e:=fun _=>.non) (p:=fun _=>true) ((YA.cons .c (.cons (.len (aD.one yv) (aV.of hl)) (.one .c))) _ ⟨1,_,2,nL b,rfl,by rw[hW];exact HQ _ hb hk.2.1,HE (e:=fun i=>iN (nAt b i)) (p:=fun _=>true) (GN 1 2 (nL b)) ?_ (fun i hi H' s=>n_.yes) (fun i hi _ H' s=>?_) (fun D' H' hD s e=>?_)⟩)
   ·unfold nL;exact Nat.le_trans (show _<=5000 by omega) (by decide)
   ·have hi2:2*i+2<b.length:=by unfold nL at hi;omega
    have y1:∀σ:St,aD (aZ 1) σ H' (.int (1+((i:Nat):Int)*2))->aD (aZ 0) σ H' (.ref l)->aD (fB (n9 fun i j=>.int (i+j)) (fB (kh K) (aZ 0) (aZ 1)) (fB (rI zd fun i j=>.int (i*j)) (tC (.int 256)) (fB (kh K) (aZ 0) (fB (n9 fun i j=>.int (i+j)) (aZ 1) (tC (.int 1)))))) σ H' (iN (nAt b i)):=by
     intro σ h1 h0;have:=aD.i0 (g:=fun i j=>.int (i+j)) (aD.ixL (K:=K) h0 h1 (aV.of (s _ _ hl)) (Df (j:=1+2*i) (by omega) (by omega))) (aD.ic (C:=zd) (g:=fun i j=>.int (i*j)) (i:=256) aD.c (aD.ixL (K:=K) h0 (aD.i0 (g:=fun i j=>.int (i+j)) h1 (aD.c (v:=.int 1))) (aV.of (s _ _ hl)) (Df (j:=1+2*i+1) (by omega) (by omega))) (.inl ⟨by decide,by decide⟩));have e:iN (nAt b i)=(fun i j=>V.int (i+j)) ((b.getD (1+2*i) 0).toNat:Int) (256*((b.getD (1+2*i+1) 0).toNat:Int)):=by unfold nAt Gw.numAt;push_cast;rfl
     rw[e];exact this
    exact(y1 _ yv yv).s
   ·rw[bH]at e;refine q1 hk D' H' s ?_;rw[e];unfold nums;rw[List.map_map];rfl
end
end Gp
namespace Gth
open Gw
abbrev iF:=List Nat×List Nat
def jd(R:List iF):Nat:=(R.map fun r=>4+2*(r.1.length+r.2.length)).sum
theorem zI(R:List iF)(r:iF):jd (R++[r])=jd R+(4+2*(r.1.length+r.2.length)):=by unfold jd;simp
theorem nr(P:List ae)(x:ae):(bA P x).length=4+2*((jF P x).1.length+(jF P x).2.length):=by
 unfold bA jF
 have e:∀l:List ae,(l.flatMap fun y=>le2 (bW P y)).length=2*l.length:=by
  intro l;induction l with
  |nil=>rfl
  |cons x l ih=>rw[List.flatMap_cons,List.length_append,ih];show 2+_=2*(l.length+1);omega
 rw[List.length_append,List.length_append,e,List.length_append];show 2+(2+_)=_;simp only[List.length_map];omega
theorem BE{b:Bytes}{g:ae}(h:bT b g):b.length=3+jd (fi g):=by
 obtain⟨_,rfl,_⟩:=h;unfold cD fi jd;rw[List.length_cons,List.length_append,List.map_map]
 have e:∀l:List ae,(l.flatMap (bA (ao g))).length=(l.map ((fun r:iF=>4+2*(r.1.length+r.2.length))∘jF (ao g))).sum:=by
  intro l;induction l with
  |nil=>rfl
  |cons x l ih=>rw[List.flatMap_cons,List.length_append,ih,List.map_cons,List.sum_cons,nr];rfl
 rw[e];show 2+_+1=_;omega
theorem BB(g:ae):0<(fi g).length:=by unfold fi;obtain⟨t,e⟩:=k8 g;rw[List.length_map,e];simp
end Gth
namespace Gp
open PySem PySem.Spec L2 Gth Gw
open PyProof.Rows hiding St
inductive kL(b:Bytes)(k:Nat):List iF->Nat->Prop where
 |good (R:List iF) (place:Nat):R.length=k->(∀m,rowsAt b (k+m) 3=(rowsAt b m (1+2*place)).map (R++·))->place<=nL b->1+2*place=3+jd R->kL b k R place
 |bad (R:List iF) (place:Nat):R.length=k->(∀m,rowsAt b (k+m) 3=none)->nL b<place->kL b k R place
theorem F4{b:Bytes}(h:rN b):kL b 0 [] 1:=.good [] 1 rfl (fun m=>by rw[Nat.zero_add];show _=(rowsAt b m 3).map id;rw[Option.map_id];rfl) (by unfold nL;have:=h.1;omega) rfl
theorem q_{b:Bytes}(h:rN b):b.length=1+2*nL b:=by unfold nL;have:=h.2.1;have:=h.1;omega
def m8(b:Bytes)(place:Nat):iF:=(((nums b).drop (place+2)).take (nAt b place),((nums b).drop (place+2+nAt b place)).take (nAt b (place+1)))
theorem wU{b:Bytes}{i n:Nat}(h:i+n<=nL b):((nums b).drop i).take n=Gw.numsAt b (1+2*i) n:=by
 apply List.ext_getElem?;intro j;unfold Gw.numsAt;rw[List.getElem?_take,List.getElem?_drop,List.getElem?_map];by_cases c:j<n
 ·rw[if_pos c,rq (by omega),List.getElem?_range c];show some (Gw.numAt b (1+2*(i+j)))=some (Gw.numAt b (1+2*i+2*j));rw[show 1+2*(i+j)=1+2*i+2*j by omega]
 ·rw[if_neg c,List.getElem?_eq_none (l:=List.range n) (by rw[List.length_range];omega)];rfl
theorem kL.stop{b:Bytes}(hb:rN b){k:Nat}{R:List iF}{place:Nat}(h:kL b k R place)(hp:nL b<place+2)(m:Nat):rowsAt b (k+(m+1)) 3=none:=by
 cases h with
 |good _ h _ _=>rw[h,rowsAt,if_pos (.inl (by rw[q_ hb];omega))];rfl
 |bad _ h _=>exact h _
theorem kL.next{b:Bytes}(hb:rN b){k:Nat}{R:List iF}{place:Nat}(h:kL b k R place)(hp:place+2<=nL b):kL b (k+1) (R++[m8 b place]) (place+2+nAt b place+nAt b (place+1)):=by
 cases h with
 |bad _ _ h=>omega
 |good e h hl hs=>
  have e1:Gw.numAt b (1+2*place)=nAt b place:=rfl;have e2:Gw.numAt b (1+2*place+2)=nAt b (place+1):=by unfold nAt;rw[show 1+2*place+2=1+2*(place+1) by omega]
  have ol:=q_ hb;by_cases c:place+2+nAt b place+nAt b (place+1)<=nL b
  ·have e3:m8 b place=(Gw.numsAt b (1+2*place+4) (nAt b place),Gw.numsAt b (1+2*place+4+2*nAt b place) (nAt b (place+1))):=by unfold m8;rw[wU (by omega),wU (by omega),show 1+2*(place+2)=1+2*place+4 by omega,show 1+2*(place+2+nAt b place)=1+2*place+4+2*nAt b place by omega]
   have l1:(m8 b place).1.length=nAt b place:=by rw[e3];show(Gw.numsAt _ _ _).length=_;unfold Gw.numsAt;rw[List.length_map,List.length_range]
   have l2:(m8 b place).2.length=nAt b (place+1):=by rw[e3];show(Gw.numsAt _ _ _).length=_;unfold Gw.numsAt;rw[List.length_map,List.length_range]
   refine .good _ _ (by rw[List.length_append,e];rfl) (fun m=>?_) c (by rw[zI,l1,l2];omega);rw[show k+1+m=k+(m+1) by omega,h,rowsAt,e1,e2,if_neg (by omega),e3];rw[show 1+2*(place+2+nAt b place+nAt b (place+1))=1+2*place+4+2*(nAt b place+nAt b (place+1)) by omega];rw[Option.map_map];congr 1;funext l;simp
  ·refine .bad _ _ (by rw[List.length_append,e];rfl) (fun m=>?_) (by omega);rw[show k+1+m=k+(m+1) by omega,h,rowsAt,e1,e2,if_pos (.inr (by omega))];rfl
theorem wk{b:Bytes}(h:rowsAt b (Gw.numAt b 1) 3=none):¬∃g,bT b g:=fun⟨g,hg⟩=>by have:=(eG hg).2.2.2;rw[h]at this;cases this
theorem yl{b:Bytes}(h:¬rN b):¬∃g,bT b g:=fun⟨g,hg⟩=>by
 have h1:=eG hg;have h2:=BE hg;refine h ⟨h1.2.1,?_,h1.1⟩
 have:∀R:List iF,jd R%2=0:=by
  intro R;unfold jd;induction R with
  |nil=>rfl
  |cons r R ih=>rw[List.map_cons,List.sum_cons];omega
 have:=this (fi g);omega
theorem kL.done{b:Bytes}(hb:rN b){R:List iF}{place:Nat}(h:kL b (Gw.numAt b 1) R place):(place=nL b/\rowsAt b (Gw.numAt b 1) 3=some R/\R.length=Gw.numAt b 1/\3+jd R=b.length)\/(¬∃g,bT b g)/\place≠nL b:=by
 cases h with
 |bad _ h hp=>exact .inr ⟨wk (h 0),by omega⟩
 |good e h hl hs=>
  have h0:=h 0;have ol:=q_ hb;rw[Nat.add_zero,rowsAt]at h0;by_cases c:place=nL b
  ·rw[if_pos (by omega)]at h0;exact .inl ⟨c,by rw[h0];simp,e,by omega⟩
  ·rw[if_neg (by omega)]at h0;exact .inr ⟨wk h0,c⟩
def fj(Z:Addr->Prop)(H:Hp)(lr:Addr)(R:List iF):Prop:=∃ts:List Addr,H lr=some (.lst (ts.map V.ref))/\ts.length=R.length/\Z lr/\∀(j:Nat)(t:Addr)(r:iF),ts[j]?=some t->R[j]?=some r->∃a d,H t=some (.tup [.ref a,.ref d])/\H a=some (.lst (r.1.map iN))/\H d=some (.lst (r.2.map iN))/\Z t/\Z a/\Z d
theorem fj.kp{Z O:Addr->Prop}{H H':Hp}{lr:Addr}{R:List iF}(h:fj Z H lr R)(s:Kp O H H')(hz:∀b,Z b->¬O b):fj Z H' lr R:=by obtain⟨ts,a,b,z,c⟩:=h;exact⟨ts,s _ _ a (hz _ z),b,z,fun j t r h1 h2=>let⟨x,y,p,q,u,z1,z2,z3⟩:=c j t r h1 h2;⟨x,y,s _ _ p (hz _ z1),s _ _ q (hz _ z2),s _ _ u (hz _ z3),z1,z2,z3⟩⟩
theorem fj.same{Z:Addr->Prop}{H H':Hp}{lr:Addr}{R:List iF}(h:fj Z H lr R)(s:aB H H'):fj Z H' lr R:=h.kp (O:=fun _=>False) (HD s) fun _ _ h=>h
def CZ(c:Cl):Sp:=fun vs H Q E=>∃(l:Addr)(b:Bytes),vs=[.ref l]/\H l=some (.lst (bI b))/\b.length<=5000/\(∀R lr H',aB H H'->fj (fun b=>H b=none) H' lr R->rowsAt b (Gw.numAt b 1) 3=some R->0<R.length->R.length<=96->jd R<=5000->Q (.ref lr) H')/\∀H',aB H H'->(¬∃g,bT b g)->E (.ref c.nG) none H'
theorem DK{xs:List V}{i j:Nat}(h:i<=j):A0 xs (some (i:Int)) (some (j:Int))=(xs.drop i).take (j-i):=by
 unfold A0;rw[HT.sIx_nat,HT.sIx_nat];apply List.ext_getElem?;intro k;rw[List.getElem?_take,List.getElem?_take,List.getElem?_drop,List.getElem?_drop];by_cases c1:i+k<xs.length
 ·rw[show min i xs.length=i by omega];by_cases c2:k<j-i
  ·rw[if_pos c2,if_pos (by omega)]
  ·rw[if_neg c2,if_neg (by omega)]
 ·rw[List.getElem?_eq_none (l:=xs) (i:=i+k) (by omega)];split<;>split<;>first|rfl|exact List.getElem?_eq_none (by omega)
theorem G7{K:W.Frag}{te tl th:TE}{σ:St}{H:Hp}{Q:VK}{a:Addr}{xs:List V}{i j:Nat}(ha:aD te σ H (.ref a))(hl:aV K H a xs)(h1:aD tl σ H (iN i))(h2:aD th σ H (iN j))(hij:i<=j)(q:∀p,H p=none->Q (.ref p) (aI H p (.lst ((xs.drop i).take (j-i))))):HK (GA K) te (Dh tl) (Dh th) σ H Q:=ha _ (h1 _ ⟨_,rfl,h2 _ ⟨_,rfl,a,xs,rfl,hl,fun p hp=>by rw[DK hij];exact q p hp⟩⟩)
theorem aD.plus{ta:TE}{σ:St}{H:Hp}{a:Nat}(n:Nat)(h:aD ta σ H (iN a)):aD (fB (n9 fun i j=>.int (i+j)) ta (tC (.int (n:Nat)))) σ H (iN (a+n)):=by have:=aD.i0 (g:=fun i j=>.int (i+j)) h (aD.c (v:=.int (n:Nat)));rw[show iN (a+n)=V.int ((a:Int)+(n:Int)) by push_cast;rfl];exact this
theorem z5{ts:List Addr}{l:List Nat}(h:ts≠[]):HO.lst (l.map iN)≠.lst (ts.map V.ref):=by
 intro e;injection e with e
 cases ts with
 |nil=>exact h rfl
 |cons t ts=>cases l with
  |nil=>cases e
  |cons x l=>rw[List.map_cons,List.map_cons]at e;injection e with e _;cases e
section
variable{P:Program}{w:World}{K:W.Frag}{mg:Str->Option Value}{base:Heap}{c:Cl}
set_option maxHeartbeats 4000000 in
theorem y4 {f:Addr} {fd:FuncData} (F:dB K "rows_of" "rows_of" qb f fd) (tx:dc K mg c) (gN:gX P w K mg base 1 "numbers_of" ["text"] (CV c)):bj P w K mg base (cH P w) 2 f fd ["text"] (CZ c):=by
 refine F.okX uj (fun vs H Q E h=>?_) (fun cdv A outer s H vs Q E hr L h=>?_)
 ·obtain⟨l,b,rfl,_⟩:=h;rfl
 ·obtain⟨l,b,rfl,hl,hb,q1,q2⟩:=h;have nd:=uj.nd;refine⟨_,af (du 1 nd (bS gN hr L.passes (aa (pv 0) aj))) (af (bC (aK ow (ba K (pv 1) aA (fun _ _=>rfl)) (aL tx.MOST_PARTS) (aX _)) (ak (cN L (by rfl) tx.xnG)) a8) (af (du 2 nd (bb aj)) (af (du 3 nd aA) (af (cg L.pass L.calm (gV (by rfl) tx.range (aa (ba K (pv 1) aA (fun _ _=>rfl)) aj)) (jc 4 nd) (af (bC (aK ow (aO gv (pv 3) aA) (aJ (gH K) (by rfl) tx.len PySem.boot_len (aa (pv 1) aj)) (aX _)) (ak (cN L (by rfl) tx.xnG)) a8) (af (du 5 nd (aO gv (aO gv (pv 3) aA) (ba K (pv 1) (pv 3) (fun _ _=>rfl)))) (af (du 6 nd (aO gv (pv 5) (ba K (pv 1) (aO gv (pv 3) aA) (fun _ _=>rfl)))) (af (aR (ng PySem.F.plainAttrs_list PySem.F.slot_list_append PySem.F.type_list_append mM (pv 2) (aa (r8 (aa (sM vI (pv 1) (mG (aO gv (pv 3) aA)) (mG (pv 5))) (aa (sM vI (pv 1) (mG (pv 5)) (mG (pv 6))) aj))) aj))) (ak (du 3 nd (pv 6)))))))) (af (bC (uU (aK Cz (pv 3) (aJ (gH K) (by rfl) tx.len PySem.boot_len (aa (pv 1) aj)) (aX _)) (rB (aK d5 (aJ (gH K) (by rfl) tx.len PySem.boot_len (aa (pv 2) aj)) aA (aX _)))).pt (ak (cN L (by rfl) tx.xnG)) a8) (ak (aN (pv 2)))))))),?_⟩;refine sq (d9 (.one yv) ⟨l,b,rfl,hl,hb,fun hk ln H1 s1 e1=>?_,fun hk=>q2 H (aB.refl H) (yl hk)⟩);have ol:=q_ hk;have hL1:1<=nL b:=by have:=hk.1;omega
  have n0:nAt b 0=Gw.numAt b 1:=rfl;have at0:wL ((nums b).map iN) 0=some (iN (Gw.numAt b 1)):=B8 (j:=0) rfl (rq (by omega));have nlen:((nums b).map iN).length=nL b:=by rw[List.length_map,Ci]
  dsimp only;refine sq (iD (b':=decide (96<Gw.numAt b 1)) (Yt.b (aD.i0 (.ixL yv .c (aV.of e1) at0) .c)) (decide_eq_decide.mpr ⟨fun h=>by omega,fun h=>by omega⟩) (fun hb'=>?_) (fun hb'=>?_))
  ·exact q2 H1 s1 fun⟨g,hg⟩=>by have:=(eG hg).2.2.1;have:=of_decide_eq_true hb';omega
  have h96:Gw.numAt b 1<=96:=by have:=of_decide_eq_false hb';omega
  dsimp only[cO];refine sq (qT .nil (Nat.zero_le _) fun lr hlr=>?_);dsimp only;refine sq (fH .c ?_);dsimp only;have hlrH:H lr=none:=s1.free hlr;have s2:aB H1 (aI H1 lr (.lst [])):=aW hlr;refine sq (DQ (j:=((Gw.numAt b 1:Nat):Int)) (.one (.ixL yv .c (aV.of (s2 _ _ e1)) at0)) (fun k σ H'=>∃R place v4 v5 v6,kL b k R place/\σ=[some (.ref l),some (.ref ln),some (.ref lr),some (iN place),v4,v5,v6]/\aB H1 H'/\fj (fun b=>H b=none) H' lr R) ?_ ?_ ?_)
  ·exact⟨[],1,none,none,none,F4 hk,rfl,s2,[],ah,rfl,hlrH,fun j t r h=>by simp at h⟩
  ·rintro k σ H2 hk2 ⟨R,place,v4,v5,v6,rs,rfl,s3,ra⟩;rw[Int.toNat_natCast]at hk2;have lR:R.length=k:=by cases rs<;>assumption
   refine sq (iD (b':=decide (nL b<place+2)) (Yt.b (aD.i0 (.i0 yv .c) (.len (aD.one yv) (aV.of (s3 _ _ e1))))) (by rw[nlen];exact decide_eq_decide.mpr ⟨fun h=>by omega,fun h=>by omega⟩) (fun hb'=>?_) (fun hb'=>?_))
   ·have hb':=of_decide_eq_true hb';have:=rs.stop hk hb' (Gw.numAt b 1-k-1);rw[show k+(Gw.numAt b 1-k-1+1)=Gw.numAt b 1 by omega]at this;exact q2 H2 (s1.trans s3) (wk this)
   have hp:place+2<=nL b:=by have:=of_decide_eq_false hb';omega
   dsimp only[cO];refine sq (fH (.i0 (.i0 yv .c) (.ixL yv yv (aV.of (s3 _ _ e1)) (B8 rfl (rq (by omega))))) ?_);dsimp only;rw[show((place:Nat):Int)+2+((nAt b place:Nat):Int)=((place+2+nAt b place:Nat):Int) by push_cast;rfl];refine sq (fH (.i0 yv (.ixL yv (.i0 yv .c) (aV.of (s3 _ _ e1)) (B8 (j:=place+1) (by push_cast;rfl) (rq (by omega))))) ?_);dsimp only;rw[show((place+2+nAt b place:Nat):Int)+((nAt b (place+1):Nat):Int)=((place+2+nAt b place+nAt b (place+1):Nat):Int) by push_cast;rfl];obtain⟨ts,e2,l2,zl,k2⟩:=ra;refine sq (vE yv e2 ?_);refine G7 (i:=place+2) (j:=place+2+nAt b place) yv (aV.of (s3 _ _ e1)) (aD.plus 2 yv) yv (by omega) fun a ha=>?_;have s4:aB H2 (aI H2 a (.lst ((((nums b).map iN).drop (place+2)).take (place+2+nAt b place-(place+2))))):=aW ha;refine G7 (i:=place+2+nAt b place) (j:=place+2+nAt b place+nAt b (place+1)) yv (aV.of (s4 _ _ (s3 _ _ e1))) yv yv (by omega) fun d hd=>⟨by show 2<=sizeLine;decide,fun tp htp=>?_⟩
   have s5:=iZ s4 (o:=.lst ((((nums b).map iN).drop (place+2+nAt b place)).take (place+2+nAt b place+nAt b (place+1)-(place+2+nAt b place)))) hd;generalize hH4:aI (aI H2 a (.lst ((((nums b).map iN).drop (place+2)).take (place+2+nAt b place-(place+2))))) d (.lst ((((nums b).map iN).drop (place+2+nAt b place)).take (place+2+nAt b place+nAt b (place+1)-(place+2+nAt b place))))=H4 at htp s5⊢;have ed:H4 d=some (.lst ((m8 b place).2.map iN)):=by rw[<-hH4,ah];unfold m8;rw[<-List.map_drop,<-List.map_take,show place+2+nAt b place+nAt b (place+1)-(place+2+nAt b place)=nAt b (place+1) by omega]
   have nad:a≠d:=au (ah (H:=H2)) hd;have ea:H4 a=some (.lst ((m8 b place).1.map iN)):=by rw[<-hH4,ai nad,ah];unfold m8;rw[<-List.map_drop,<-List.map_take,show place+2+nAt b place-(place+2)=nAt b place by omega]
   have nal:a≠lr:=fun h=>by rw[h,e2]at ha;cases ha
   have ndl:d≠lr:=fun h=>by have:=s4 _ _ e2;rw[<-h,hd]at this;cases this
   have ntl:tp≠lr:=fun h=>by have:=s5 _ _ e2;rw[<-h,htp]at this;cases this
   have e2':aI H4 tp (.tup [.ref a,.ref d]) lr=some (.lst (ts.map V.ref)):=by rw[ai (Ne.symm ntl)];exact s5 _ _ e2
   refine⟨lr,ts.map V.ref,.ref tp,rfl,rfl,e2',by rw[List.length_map,l2,lR];exact Nat.lt_trans (show k<96 by omega) (by decide),?_⟩;dsimp only;have up:∀{x:Addr}{o u:HO},H4 x=some o->x≠lr->aI (aI H4 tp (.tup [.ref a,.ref d])) lr u x=some o:=fun e n=>by rw[ai n,ai (au e htp)];exact e
   have nlr:∀{x:Addr}{o:HO},H1 x=some o->x≠lr:=fun e=>au e hlr;refine fH yv ⟨R++[m8 b place],_,_,_,_,rs.next hk hp,rfl,fun x o e=>up (s5 _ _ (s3 _ _ e)) (nlr e),ts++[tp],by rw[ah,List.map_append];rfl,by rw[List.length_append,List.length_append,l2];rfl,zl,fun j t r h1 h2=>?_⟩;by_cases cj:j<ts.length
   ·rw[List.getElem?_append_left cj]at h1;rw[List.getElem?_append_left (by omega)]at h2;have nts:ts≠[]:=fun h=>by rw[h]at cj;simp at cj
    obtain⟨x,y,p1,p2,p3,z1,z2,z3⟩:=k2 j t r h1 h2;exact⟨x,y,up (s5 _ _ p1) (cv p1 e2 fun h=>by cases h),up (s5 _ _ p2) (cv p2 e2 (z5 nts)),up (s5 _ _ p3) (cv p3 e2 (z5 nts)),z1,z2,z3⟩
   ·have ej:j=ts.length:=by have:=(List.getElem?_eq_some_iff.mp h1).1;rw[List.length_append,List.length_singleton]at this;omega
    subst ej;rw[List.getElem?_append_right (Nat.le_refl _),Nat.sub_self]at h1;rw[l2,List.getElem?_append_right (Nat.le_refl _),Nat.sub_self]at h2;cases h1;cases h2;exact⟨a,d,by rw[ai ntl,ah],up ea nal,up ed ndl,s1.free (s3.free (s5.free htp)),s1.free (s3.free ha),s1.free (s3.free (s4.free hd))⟩
  ·rintro σ H2 ⟨R,place,v4,v5,v6,rs,rfl,s3,ra⟩;rw[Int.toNat_natCast]at rs;have ra':=ra;obtain⟨ts,e2,l2,zl,k2⟩:=ra;dsimp only;refine sq (iD (b':=decide (place≠nL b)||decide (R.length=0)) (Yt.or (Yt.b (aD.ne yv (.len (aD.one yv) (aV.of (s3 _ _ e1))))) (fun _=>Yt.b (aD.eq (.len (aD.one yv) (aV.of e2)) .c))) ?_ (fun hb'=>?_) (fun hb'=>?_))
   ·rw[nlen,List.length_map,l2];congr 1
    ·rw[<-decide_not];exact decide_eq_decide.mpr ⟨fun h=>by omega,fun h=>by omega⟩
    ·exact decide_eq_decide.mpr ⟨fun h=>by omega,fun h=>by omega⟩
   ·rw[Bool.or_eq_true,decide_eq_true_iff,decide_eq_true_iff]at hb';refine q2 H2 (s1.trans s3) ?_;rcases rs.done hk with⟨a1,a2,a3,a4⟩|⟨a1,a2⟩
    ·rcases hb' with h|h
     ·exact absurd a1 h
     ·rintro⟨g,hg⟩;have:=(eG hg).2.2.2;rw[a2]at this;cases this;have:=BB g;omega
    ·exact a1
   ·rw[Bool.or_eq_false_iff,decide_eq_false_iff_not,decide_eq_false_iff_not]at hb';dsimp only[cO];rcases rs.done hk with⟨a1,a2,a3,a4⟩|⟨a1,a2⟩
    ·exact iG yv (q1 R lr H2 (s1.trans s3) ra' a2 (by omega) (by omega) (by omega))
    ·exact absurd a2 hb'.1
end
end Gp
namespace Gp
open PySem PySem.Spec L2 Gth Gw
open PyProof.Rows hiding St
section
variable{α:Type}{K:W.Frag}{tl:TE}{tt:TT}{te:TE}{i:Nat}{σ:St}{H:Hp}{Q:VK}{xs:List α}{f e:α->V}{p:α->Bool}
theorem BC(hi:mY tl σ H (xs.map f))(hz:xs.length<=sizeLine) (ht:∀x∈xs,∀H',aB H H'->n_ tt ((b8 σ [i]).set i (some (f x))) H' (p x)) (he:∀x∈xs,p x=true->∀H',aB H H'->BM te ((b8 σ [i]).set i (some (f x))) H' (e x)) (hd:∀D H',aB H H'->H' D=some (.lst ((xs.filter p).map e))->Q (.ref D) H'):Ah (kX K tl) (bw i) tt te [i] σ H Q:=hi _ fun q H1 s1 e1=>(jk (tl:=tC (.ref q)) (K:=K) (f:=f) (e:=e) (p:=p) aD.c (aV.of e1) hz (fun x hx H' s=>ht x hx H' (s1.trans s)) (fun x hx hp H' s=>he x hx hp H' (s1.trans s)) (fun D H' _ s e=>hd D H' (s1.trans s) e):Ah (kX K (tC (.ref q))) (bw i) tt te [i] σ H1 Q)
theorem mY.cat{A B:TE}{xs ys:List V}{p q:Addr}(hA:aD A σ H (.ref p))(hB:aD B σ H (.ref q))(e1:H p=some (.lst xs))(e2:H q=some (.lst ys))(z:xs.length+ys.length<=sizeLine):mY (fB t_ A B) σ H (xs++ys):=fun Q k=>hA _ (hB _ ⟨p,q,xs,ys,rfl,rfl,e1,e2,z,fun r hr=>k r _ (aW hr) ah⟩)
end
theorem EY{K:W.Frag}{tl:TE}{σ:St}{H:Hp}{D:bN}(h:tl σ H fun v H1=>∃(a:Addr) (bs:List Bool),[v]=[V.ref a]/\aV K H1 a (bs.map V.bl)/\D.rt (.bl (bs.all id)) H1):ke (Ab (Gi K) (a_ tl ck)) D σ H:=h
def EO:Sp:=fun vs H Q _=>∃(t dd a d:Addr)(r:iF)(kvs:List (dU×V)),vs=[.ref t,.ref dd]/\H t=some (.tup [.ref a,.ref d])/\H a=some (.lst (r.1.map iN))/\H d=some (.lst (r.2.map iN))/\r.1.length+r.2.length<=5000/\H dd=some (.dK kvs)/\∀H',aB H H'->Q (.bl ((r.1++r.2).all fun i=>(bQ kvs (.inl ((i:Nat):Int))).isSome)) H'
def iB(t:List Nat):List (dU×V):=t.map fun i=>((Sum.inl ((i:Nat):Int):dU),V.bl true)
theorem sP{t:List Nat}{i:Nat}:(bQ (iB t) (.inl ((i:Nat):Int))).isSome=decide (i∈t):=by
 rw[<-ff];refine Bool.eq_iff_iff.mpr ?_;rw[List.any_eq_true,decide_eq_true_iff];constructor
 ·rintro⟨kv,h,e⟩;obtain⟨j,hj,rfl⟩:=List.mem_map.mp h;have e:=of_decide_eq_true e;have e:(Sum.inl ((j:Nat):Int):dU)=.inl ((i:Nat):Int):=e;injection e with e
  rw[<-Int.ofNat_inj.mp e];exact hj
 ·intro h;exact⟨_,List.mem_map.mpr ⟨i,h,rfl⟩,decide_eq_true rfl⟩
theorem Ds{t:List Nat}{i:Nat}(h:i∉t):iS (iB t) (.inl ((i:Nat):Int)) (.bl true)=iB (t++[i]):=by
 have:bQ (iB t) (.inl ((i:Nat):Int))=none:=by
  have:=sP (t:=t) (i:=i);rw[decide_eq_false h]at this;cases e:bQ (iB t) (.inl ((i:Nat):Int))with
  |none=>rfl
  |some v=>rw[e]at this;cases this
 rw[sG _ this];unfold iB;rw[List.map_append];rfl
def Ad(c:Cl):Sp:=fun vs H Q E=>∃(Z:Addr->Prop)(lr:Addr)(R:List iF),vs=[.ref lr]/\fj Z H lr R/\R.length<=96/\(∀r∈R,r.1.length+r.2.length<=5000)/\(∀t lt H',H lt=none->aB H H'->H' lt=some (.lst (t.map iN))->cJ R t->(∀i,i<R.length->i∈t)->Q (.ref lt) H')/\∀H',aB H H'->(¬∃g,R=fi g)->E (.ref c.nG) none H'
theorem cJ.lt{R:List iF}{t:List Nat}(h:cJ R t){i:Nat}(hi:i∈t):i<R.length:=by obtain⟨l,r,e,_⟩:=h.opts i hi;exact(List.getElem?_eq_some_iff.mp e).1
theorem Gn(n:Nat):Hy (BV 0 n) n iN:=⟨fun _ _ h=>h,fun _ _ _ _ h=>⟨h.1,by rw[h.2,Int.zero_add]⟩,fun _=>Nat.le_refl _⟩
theorem Hs{ta:TA}{n v:Nat}{tt:TT}{te:TE}{σ:St}{H:Hp}{Q:VK}{e:Nat->V}{p:Nat->Bool}(hi:YA ta σ H [iN n])(hz:n<=sizeLine)(ht:∀i,i<n->∀H',aB H H'->n_ tt ((b8 σ [v]).set v (some (iN i))) H' (p i)) (he:∀i,i<n->p i=true->∀H',aB H H'->BM te ((b8 σ [v]).set v (some (iN i))) H' (e i)) (hd:∀D H',H D=none->aB H H'->H' D=some (.lst (((List.range n).filter p).map e))->Q (.ref D) H'):Ah (uB ta) (bw v) tt te [v] σ H Q:=hi _ ⟨_,rfl,by rw[Int.toNat_natCast];exact HE (Gn n) hz ht he hd⟩
theorem FL{ta:TA}{n v i:Nat}{tt:TT}{te:TE}{σ:St}{H:Hp}{D:bN}{e:Nat->V}{p:Nat->Bool}(hi:YA ta σ H [iN n])(hz:n<=sizeLine)(ht:∀i,i<n->∀H',aB H H'->n_ tt ((b8 σ [v]).set v (some (iN i))) H' (p i)) (he:∀i,i<n->p i=true->∀H',aB H H'->BM te ((b8 σ [v]).set v (some (iN i))) H' (e i)) (hd:∀D' H',H D'=none->aB H H'->H' D'=some (.lst (((List.range n).filter p).map e))->D.nx (σ.set i (some (.ref D'))) H'):fV (Ah (uB ta) (bw v) tt te [v]) (bw i) D σ H:=Hs hi hz ht he hd
theorem n_.and{t u:TT}{σ:St}{H:Hp}{a b:Bool}(h:n_ t σ H a)(h':a=true->∀H',aB H H'->n_ u σ H' b):n_ (FA t u) σ H (a&&b):=fun Q q=>h _ fun H1 s1=>by
 cases a with
 |true=>rw[if_pos rfl];exact h' rfl H1 s1 _ fun H2 s2=>q H2 (s1.trans s2)
 |false=>rw[if_neg (by decide)];exact q H1 s1
section
variable{P:Program}{w:World}{K:W.Frag}{mg:Str->Option Value}{base:Heap}{c:Cl}
theorem xQ {f:Addr} {fd:FuncData} (F:dB K "all_done" "all_done" n8 f fd) (tx:dc K mg c):bj P w K mg base (cH P w) 1 f fd ["rows_of_part","done"] EO:=by
 refine F.ok0 rX (fun vs H Q E h=>?_) (fun cdv A outer s H vs Q E hr h=>?_)
 ·obtain⟨t,dd,a,d,r,kvs,rfl,_⟩:=h;rfl
 ·obtain⟨t,dd,a,d,r,kvs,rfl,ht,ha,hd,hz,hdd,q⟩:=h;have nd:=rX.nd;have hu:=nj hr;refine⟨_,ak (aN (aJ (Fp rfl) (by rfl) tx.all BF (aa (sO (own:=[("option",2)]) rfl nd (oK K (aO i3 (cu K (pv 0) (aL tx.LEFT) (fun _ _=>rfl)) (cu K (pv 0) (aL tx.RIGHT) (fun _ _=>rfl)))) (bD rfl) (fun _ _ _ _ _=>jc 2 nd) (fun _ _ _ _ _=>c_) (fun _ _ _ _ _=>E8 (Fj hu (pv 2) (pv 1)) (by with_unfolding_all rfl))) aj))),?_⟩;have z:(r.1.map iN).length+(r.2.map iN).length<=sizeLine:=by rw[List.length_map,List.length_map];exact Nat.le_trans hz (by decide)
  refine EY (BC (xs:=r.1++r.2) (f:=iN) (e:=fun i=>.bl (bQ kvs (.inl ((i:Nat):Int))).isSome) (p:=fun _=>true) ?_ ?_ (fun x hx H' s=>n_.yes) (fun x hx _ H' s=>?_) (fun D' H' s e=>?_))
  ·rw[List.map_append];exact mY.cat (.ixT yv .c (i6.of ht) rfl) (.ixT yv .c (i6.of ht) rfl) ha hd z
  ·rw[List.length_append];exact Nat.le_trans hz (by decide)
  ·exact(aD.din yv yv (gq.k (k:=Sum.inl ((x:Nat):Int)) (s _ _ hdd))).s
  ·rw[bH]at e;refine⟨D',(r.1++r.2).map fun i=>(bQ kvs (.inl ((i:Nat):Int))).isSome,rfl,aV.of (by rw[e,List.map_map];rfl),?_⟩;rw[List.all_map];exact q H' s
open Classical in
set_option maxHeartbeats 4000000 in
theorem p7 {f:Addr} {fd:FuncData} (F:dB K "options_first" "options_first" gw f fd) (tx:dc K mg c) (gA:gX P w K mg base 1 "all_done" ["rows_of_part","done"] EO):bj P w K mg base (cH P w) 2 f fd ["rows"] (Ad c):=by
 refine F.okX j3 (fun vs H Q E h=>?_) (fun cdv A outer s H vs Q E hr L h=>?_)
 ·obtain⟨Z,lr,R,rfl,_⟩:=h;rfl
 ·obtain⟨Z,lr,R,rfl,ra,h96,hsz,q1,q2⟩:=h
  have nd:=j3.nd
  have hu:=nj hr
  refine⟨_,af (du 1 nd ig)
   (af (kG L.pass (aK uw (aJ BG (by rfl) tx.len PySem.boot_len (aa (pv 1) aj)) (aJ (gH K) (by rfl) tx.len PySem.boot_len (aa (pv 0) aj)) (aX _))
    (af (cy (i:=3) (own:=[("number",2)]) L.calm nd rfl rfl (dr rfl rfl rfl rfl) (gV (by rfl) tx.range (aa (aJ (gH K) (by rfl) tx.len PySem.boot_len (aa (pv 0) aj)) aj)) (bD rfl) (fun _ _ _ _ _=>jc 2 nd)
     (fun _ _ _ _ _=>l_ (yP (B0 (uV hu (pv 2) (pv 1)) (by with_unfolding_all rfl)) (vX (cY K (bS gA hr bq (aa (ba K (pv 0) (pv 2) (fun _ _=>rfl)) (aa (pv 1) aj)))))).pt) (fun _ _ _ _ _=>pv 2))
    (af (bC (aK d5 (aJ (gH K) (by rfl) tx.len PySem.boot_len (aa (pv 3) aj)) aA (aX _)) (ak (cN L (by rfl) tx.xnG)) a8)
    (ak (cg L.pass L.calm (oK K (pv 3)) (jc 2 nd) (ak (jI hu (pv 1) (pv 2) Gv rfl)))))))
   (ak (aN (Ba (rD L.calm) (by rfl) tx.list rS (aa (pv 1) aj))))),?_⟩
  obtain⟨ts,elr,lts,zlr,krow⟩:=ra
  refine sq (mE fun dd hdd=>?_)
  dsimp only
  refine sq ⟨fun m σ H1=>∃t v2 v3,cJ R t/\t.length+m=R.length/\σ=[some (.ref lr),some (.ref dd),v2,v3]/\aB H H1/\H1 dd=some (.dK (iB t)),⟨R.length,[],none,none,.nil,Nat.zero_add _,rfl,aW hdd,ah⟩,?_⟩
  rintro m σ H1 ⟨t,v2,v3,ht,hm,rfl,s1,ed⟩
  have tn:=ht.nodup
  have ldone:(iB t).length=t.length:=by unfold iB;rw[List.length_map]
  have ylen:aD (Ab (fun xs H Q=>∃a kvs,xs=[V.ref a]/\H a=some (.dK kvs)/\Q (.int kvs.length) H) (a_ (aZ 1) ck)) [some (.ref lr),some (.ref dd),v2,v3] H1 (iN t.length):=fun Q q=>⟨_,rfl,dd,_,rfl,ed,by rw[ldone];exact q⟩
  refine Yt.b (aD.i0 (tb:=Ab (fun xs H Q=>∃p ys,xs=[.ref p]/\(aV K H p ys\/i6 K H p ys)/\Q (.int ys.length) H) (a_ (aZ 0) ck)) (g:=fun i j=>.bl (decide (i<j))) ylen (.len (aD.one yv) (aV.of (s1 _ _ elr)))) _ ?_
  rw[List.length_map,lts]
  by_cases c0:t.length<R.length
  ·rw[decide_eq_true (show((t.length:Nat):Int)<((R.length:Nat):Int) by omega),if_pos rfl]
   refine⟨fun σ' H'=>∃m',m'<m/\∃t v2 v3,cJ R t/\t.length+m'=R.length/\σ'=[some (.ref lr),some (.ref dd),v2,v3]/\aB H H'/\H' dd=some (.dK (iB t)),fun _ _ h=>h,?_⟩
   have rowOf:∀i,i<R.length->∃r,R[i]?=some r/\r∈R:=fun i hi=>⟨R[i],List.getElem?_eq_getElem hi,List.getElem_mem hi⟩
   let rdy:Nat->Bool:=fun i=>!decide (i∈t)&&(((R.getD i ([],[])).1++(R.getD i ([],[])).2).all fun j=>decide (j∈t))
   have yR:∀{σ:St},σ[0]?=some (some (.ref lr))->aD (Ab (fun xs H Q=>∃p ys,xs=[.ref p]/\(aV K H p ys\/i6 K H p ys)/\Q (.int ys.length) H) (a_ (aZ 0) ck)) σ H1 (iN R.length):=fun h=>by
    have:=aD.len (K:=K) (aD.one (yv (n:=0) h)) (aV.of (s1 _ _ elr))
    rw[List.length_map,lts]at this;exact this
   refine sq (FL (n:=R.length) (e:=iN) (p:=rdy) (.one (yR rfl)) (Nat.le_trans h96 (by decide)) (fun i hi H' s=>?_) (fun i hi _ H' s=>aD.s yv) (fun ly H2 hly s2 e2=>?_))
   ·have s':=s1.trans s
    obtain⟨r,hr',hrm⟩:=rowOf i hi
    have htsi:i<ts.length:=by omega
    obtain⟨a,d,p1,p2,p3,_⟩:=krow i ts[i] r (List.getElem?_eq_getElem htsi) hr'
    have er:R.getD i ([],[])=r:=by rw[List.getD_eq_getElem?_getD,hr'];rfl
    refine n_.and (Yt.s (Yt.b ?_)) (fun _ H'' s''=>?_)
    ·rw[<-sP]
     exact aD.dnotin yv yv (gq.k (k:=Sum.inl ((i:Nat):Int)) (s _ _ ed))
    ·intro Q q
     have s3:=s'.trans s''
     refine AG (vs:=[.ref ts[i],.ref dd]) (.cons (.ixL yv yv (aV.of (s3 _ _ elr)) (oi (j:=i) rfl (by rw[List.getElem?_map,List.getElem?_eq_getElem htsi];rfl))) (.one yv)) ⟨ts[i],dd,a,d,r,iB t,rfl,s3 _ _ p1,s3 _ _ p2,s3 _ _ p3,hsz r hrm,s'' _ _ (s _ _ ed),fun H3 s4=>⟨_,rfl,?_⟩⟩
     have:=q H3 s4
     rw[er]at this
     simp only[sP]
     exact this
   ·have e2':=e2
    have s12:=s1.trans s2
    generalize hrd:(List.range R.length).filter rdy=rd at e2'
    have mrd:∀i,i∈rd↔i<R.length/\rdy i=true:=fun i=>by rw[<-hrd,List.mem_filter,List.mem_range]
    have nrd:rd.Nodup:=by rw[<-hrd];exact List.nodup_range.filter _
    dsimp only
    refine sq (iD (b':=decide (rd=[])) (Yt.b (aD.eq (.len (aD.one yv) (aV.of e2')) .c)) ?_ (fun hb=>?_) (fun hb=>?_))
    ·rw[List.length_map]
     refine decide_eq_decide.mpr ⟨fun h=>List.eq_nil_of_length_eq_zero (by omega),fun h=>by rw[h];rfl⟩
    ·have hb:=of_decide_eq_true hb
     refine q2 H2 s12 ?_
     rintro⟨g,rfl⟩
     have hex:∃i,i<(fi g).length/\i∉t:=by
      apply Classical.byContradiction
      intro no
      have:=aC (l:=List.range (fi g).length) (P:=t) List.nodup_range fun i hi=>Classical.byContradiction fun h=>no ⟨i,List.mem_range.mp hi,h⟩
      rw[List.length_range]at this
      omega
     obtain⟨i,hi,hit⟩:=hex
     obtain⟨j,l,r,hj,hjt,hl,hr'⟩:=Dt (D:=fun i=>i∈t) hi hit
     have:j∈rd:=(mrd j).mpr ⟨(List.getElem?_eq_some_iff.mp hj).1,by
      show(!decide (j∈t)&&_)=true
      rw[decide_eq_false hjt,List.getD_eq_getElem?_getD,hj]
      show(List.all _ _)=true
      rw[List.all_eq_true]
      intro x hx
      exact decide_eq_true ((List.mem_append.mp hx).elim (hl x) (hr' x))⟩
     rw[hb]at this;cases this
    ·have hb:=of_decide_eq_false hb
     dsimp only[cO]
     refine t7 (xs:=rd) (f:=iN) yv (fun j σ H3=>∃v2,cJ R (t++rd.take j)/\σ=[some (.ref lr),some (.ref dd),v2,some (.ref ly)]/\aB H H3/\H3 ly=some (.lst (rd.map iN))/\H3 dd=some (.dK (iB (t++rd.take j)))) (aV.of e2') ⟨v2,by rw[List.take_zero,List.append_nil];exact ht,rfl,s12,e2',by rw[List.take_zero,List.append_nil];exact s2 _ _ ed⟩ (fun j σ H3 _⟨_,_,_,_,e,_⟩=>aV.of e) ?_ ?_
     ·rintro j i σ H3 hji ⟨v2',ht',rfl,s3,ely,edd⟩
      have him:=(mrd i).mp (List.mem_of_getElem? hji)
      have hr':=him.2
      have hr':(!decide (i∈t)&&(((R.getD i ([],[])).1++(R.getD i ([],[])).2).all fun j=>decide (j∈t)))=true:=hr'
      rw[Bool.and_eq_true,Bool.not_eq_true',decide_eq_false_iff_not,List.all_eq_true]at hr'
      obtain⟨r,hr2,hrm⟩:=rowOf i him.1
      have er:R.getD i ([],[])=r:=by rw[List.getD_eq_getElem?_getD,hr2];rfl
      rw[er]at hr'
      have hnew:i∉t++rd.take j:=by
       rw[List.mem_append]
       rintro(h|h)
       ·exact hr'.1 h
       ·obtain⟨k,hk,e⟩:=List.mem_iff_getElem.mp h
        rw[List.length_take]at hk
        have:rd[k]?=some i:=by rw[<-e,List.getElem_take];exact List.getElem?_eq_getElem _
        have:=wM nrd this hji
        omega
      have hlen:(iB (t++rd.take j)).length<sizeLine:=by
       unfold iB
       rw[List.length_map]
       have:=aC ht'.nodup (P:=List.range R.length) fun x hx=>List.mem_range.mpr (cJ.lt ht' hx)
       rw[List.length_range]at this
       exact Nat.lt_of_le_of_lt (Nat.le_trans this h96) (by decide)
      refine Av (k:=.inl ((i:Nat):Int)) .c yv yv edd hlen ?_
      rw[Ds hnew,List.append_assoc,<-a7 hji]
      refine⟨_,?_,rfl,fun b o e=>?_,?_,ah⟩
      ·rw[a7 hji,<-List.append_assoc]
       refine .snoc _ i r.1 r.2 ht' hr2 hnew (fun x hx=>?_) fun x hx=>?_
       ·exact List.mem_append.mpr (.inl (of_decide_eq_true (hr'.2 x (List.mem_append.mpr (.inl hx)))))
       ·exact List.mem_append.mpr (.inl (of_decide_eq_true (hr'.2 x (List.mem_append.mpr (.inr hx)))))
      ·rw[ai (au e hdd)];exact s3 _ _ e
      ·rw[ai (cv ely edd fun h=>by cases h)];exact ely
     ·rintro σ H3 ⟨v2',ht',rfl,s3,ely,edd⟩
      rw[List.take_length]at ht' edd
      have l1:=aC ht'.nodup (P:=List.range R.length) fun x hx=>List.mem_range.mpr (cJ.lt ht' hx)
      rw[List.length_range,List.length_append]at l1
      have l2:0<rd.length:=List.length_pos_iff.mpr hb
      exact⟨R.length-(t.length+rd.length),by omega,t++rd,_,_,ht',by rw[List.length_append];omega,rfl,s3,edd⟩
  ·rw[decide_eq_false (show ¬((t.length:Nat):Int)<((R.length:Nat):Int) by omega)]
   rw[if_neg (by decide)]
   refine(yv:aD (aZ 1) _ H1 (.ref dd)) _ ⟨dd,_,rfl,ed,fun p hp=>?_⟩
   refine q1 t p _ (s1.free hp) (iZ s1 hp) ?_ ht fun i hi=>?_
   ·rw[ah];unfold iB;rw[List.map_map];rfl
   ·apply Classical.byContradiction
    intro hit
    have n2:(i::t).Nodup:=List.nodup_cons.mpr ⟨hit,tn⟩
    have:=aC n2 (P:=List.range R.length) fun x hx=>by
     rcases List.mem_cons.mp hx with rfl|hx
     ·exact List.mem_range.mpr hi
     ·exact List.mem_range.mpr (cJ.lt ht hx)
    rw[List.length_cons,List.length_range]at this
    omega
end
end Gp
namespace Gth
theorem cJ.ahead{R:List (List Nat×List Nat)}{t:List Nat}(h:cJ R t):∀{j i:Nat}{l r:List Nat},t[j]?=some i->R[i]?=some (l,r)->(∀z∈l,z∈t.take j)/\∀z∈r,z∈t.take j:=by
 induction h with
 |nil=>intro j i l r h;simp at h
 |snoc t i l r ht hr hi hl hr' ih=>
  intro j i' l' r' hj hR;by_cases c:j<t.length
  ·rw[List.getElem?_append_left c]at hj;rw[List.take_append_of_le_length (by omega)];exact ih hj hR
  ·have:j=t.length:=by have:=(List.getElem?_eq_some_iff.mp hj).1;rw[List.length_append,List.length_singleton]at this;omega
   subst this;rw[List.getElem?_append_right (Nat.le_refl _),Nat.sub_self]at hj;cases hj;rw[hr]at hR;cases hR;rw[List.take_left];exact⟨hl,hr'⟩
end Gth
namespace Gp
open PySem PySem.Spec L2 Gth Gw
open PyProof.Rows hiding St
theorem fj.live{Z:Addr->Prop}{H:Hp}{lr:Addr}{R:List iF}(h:fj Z H lr R):fj (fun b=>Z b/\H b≠none) H lr R:=by
 obtain⟨ts,a,b,z,c⟩:=h;have nn:∀{b:Addr}{o:HO},H b=some o->H b≠none:=fun e n=>by rw[n]at e;cases e
 exact⟨ts,a,b,⟨z,nn a⟩,fun j t r h1 h2=>let⟨x,y,p,q,u,z1,z2,z3⟩:=c j t r h1 h2;⟨x,y,p,q,u,⟨z1,nn p⟩,⟨z2,nn q⟩,z3,nn u⟩⟩
def su(c:Cl):Sp:=fun vs H Q E=>∃(T:Tb)(Z:Addr->Prop)(lr lt:Addr)(R:List iF)(t:List Nat)(fm:Nat->ae),vs=[.ref T.tb,.ref lr,.ref lt]/\bP c.P c.T H T/\fj Z H lr R/\(∀b,Z b->¬tK T b)/\H lt=some (.lst (t.map iN))/\Z lt/\(∀r∈R,r.1.length+r.2.length<=5000)/\t.length<=96/\cJ R t/\qp R t fm/\0∈t/\nq c.P c.T c.nR T H (fun x=>∃i∈t,x=fm i) (fm 0) Q E
section
variable{P:Program}{w:World}{K:W.Frag}{mg:Str->Option Value}{base:Heap}{c:Cl}
set_option maxHeartbeats 4000000 in
theorem qO {f:Addr} {fd:FuncData} (F:dB K "form_of_rows" "form_of_rows" iA f fd) (tx:dc K mg c) (mF:iV P w K mg base 5 c.T "form_of" ["self","lefts","rights"] (ku c)) :bj P w K mg base (cH P w) 6 f fd ["table","rows","turns"] (su c):=by
 refine F.okX ki (fun vs H Q E h=>?_) (fun cdv A outer s H vs Q E hr L h=>?_)
 ·obtain⟨T,Z,lr,lt,R,t,fm,rfl,_⟩:=h;rfl
 ·obtain⟨T,Z,lr,lt,R,t,fm,rfl,tb,ra,hZ,elt,zlt,hsz,l96,ht,hf,h0,mk⟩:=h;have nd:=ki.nd;have ra:=ra.live;have zlt:Z lt/\H lt≠none:=⟨zlt,fun n=>by rw[n]at elt;cases elt⟩
  have hu:=nj hr;refine⟨_,af (du 3 nd ig) (af (cg L.pass L.calm (oK K (pv 2)) (jc 4 nd) (af (cy (i:=5) (own:=[("option",7)]) L.calm nd rfl rfl (dr rfl rfl rfl rfl) (oK K (cu K (ba K (pv 1) (pv 4) (fun _ _=>rfl)) (aL tx.LEFT) (fun _ _=>rfl))) (bD rfl) (fun _ _ _ _ _=>jc 7 nd) (fun _ _ _ _ _=>c_) (fun _ _ _ _ _=>d6 hu (pv 3) (pv 7) (fun _ _=>rfl))) (af (cy (i:=6) (own:=[("option",7)]) L.calm nd rfl rfl (dr rfl rfl rfl rfl) (oK K (cu K (ba K (pv 1) (pv 4) (fun _ _=>rfl)) (aL tx.RIGHT) (fun _ _=>rfl))) (bD rfl) (fun _ _ _ _ _=>jc 7 nd) (fun _ _ _ _ _=>c_) (fun _ _ _ _ _=>d6 hu (pv 3) (pv 7) (fun _ _=>rfl))) (ak (jI hu (pv 3) (pv 4) (cf mF tx.clT hr L.passes (pv 0) (aa (pv 5) (aa (pv 6) aj))) rfl))))) (ak (aN (d6 hu (pv 3) aA (fun _ _=>rfl))))),?_⟩;refine sq (mE fun dp hdp=>?_);have s0:aB H (aI H dp (.dK [])):=aW hdp;dsimp only;refine sq (t7 (xs:=t) (f:=iN) yv (fun j σ H2=>∃T2 v4 v5 v6 kvs,jh c.P c.T (fun x=>∃i∈t,x=fm i) T H T2 H2/\σ=[some (.ref T2.tb),some (.ref lr),some (.ref lt),some (.ref dp),v4,v5,v6,none]/\H2 dp=some (.dK kvs)/\¬cx T2 dp/\kvs.length<=j/\H2 lt=some (.lst (t.map iN))/\fj (fun b=>Z b/\H b≠none) H2 lr R/\∀i∈t.take j,bQ kvs (.inl ((i:Nat):Int))=some (T2.at (fm i))/\fm i∈T2.gs) (aV.of (s0 _ _ elt)) ?_ ?_ ?_ ?_)
  ·exact⟨T,none,none,none,[],.same tb s0,rfl,ah,tb.freshA hdp,Nat.le_refl _,s0 _ _ elt,ra.same s0,fun i hi=>by simp at hi⟩
  ·rintro j σ H2 _ ⟨T2,v4,v5,v6,kvs,_,_,_,_,_,e,_⟩;exact aV.of e
  ·rintro j i σ H2 hj ⟨T2,v4,v5,v6,kvs,st,rfl,ed,ndp,lk,el,ra2,hk⟩;have him:=List.mem_of_getElem? hj;obtain⟨l,r,hR,_,_⟩:=ht.opts i him;obtain⟨al,ar⟩:=ht.ahead hj hR;have ra3:=ra2;obtain⟨ts,elr,lts,zlr,krow⟩:=ra2;have hil:i<ts.length:=by rw[lts];exact(List.getElem?_eq_some_iff.mp hR).1
   obtain⟨a,d,p1,p2,p3,z1,z2,z3⟩:=krow i ts[i] (l,r) (List.getElem?_eq_getElem hil) hR;have hlr:=hsz (l,r) (List.mem_of_getElem? hR);have j96:j<96:=Nat.lt_of_lt_of_le (List.getElem?_eq_some_iff.mp hj).1 l96;have row:∀{H':Hp}{σ:St},aB H2 H'->∀y∈t.take j,aD (aZ 7) σ H' (iN y)->aD (aZ 3) σ H' (.ref dp)->BM (Aj (aZ 3) (aZ 7)) σ H' (T2.at (fm y)):=by intro H' σ s y hy h7 h3;refine(aD.dget h3 h7 ?_).s;rw[<-(hk y hy).1];exact gq.k (k:=Sum.inl ((y:Nat):Int)) (s _ _ ed)
   have yrow:∀{σ:St}{H':Hp}{e:V}{n:Int},aB H2 H'->σ[1]?=some (some (.ref lr))->σ[4]?=some (some (iN i))->wL [V.ref a,.ref d] n=some e->aD (fB (vY K) (fB (kh K) (aZ 1) (aZ 4)) (tC (.int n))) σ H' e:=fun s h1 h4 he=>.ixT (.ixL (yv h1) (yv h4) (aV.of (s _ _ elr)) (oi (j:=i) rfl (by rw[List.getElem?_map,List.getElem?_eq_getElem hil];rfl))) .c (i6.of (s _ _ p1)) he;refine sq (kd (xs:=l) (f:=iN) (e:=fun y=>T2.at (fm y)) (p:=fun _=>true) (yrow (aB.refl _) rfl rfl rfl) (aV.of p2) (Nat.le_trans (show l.length<=5000 by dsimp only at hlr;omega) (by decide)) (fun y hy H' s=>n_.yes) (fun y hy _ H' s=>row s y (al y hy) yv yv) (fun l1 H3 hl1 s3 e3=>?_));rw[bH]at e3;dsimp only;refine sq (kd (xs:=r) (f:=iN) (e:=fun y=>T2.at (fm y)) (p:=fun _=>true) (yrow s3 rfl rfl rfl) (aV.of (s3 _ _ p3)) (Nat.le_trans (show r.length<=5000 by dsimp only at hlr;omega) (by decide)) (fun y hy H' s=>n_.yes) (fun y hy _ H' s=>row (s3.trans s) y (ar y hy) yv yv) (fun l2 H4 hl2 s4 e4=>?_));rw[bH]at e4;have s34:=s3.trans s4;have t4:=st.tab.same s34;dsimp only;refine Ca yv t4.tab rfl (.cons yv (.one yv)) ⟨T2,l1,l2,l.map fm,r.map fm,rfl,t4,by rw[List.map_map];exact s4 _ _ e3,by rw[List.map_map];exact e4,fun x hx=>by obtain⟨y,hy,rfl⟩:=List.mem_map.mp hx;exact(hk y (al y hy)).2,fun x hx=>by obtain⟨y,hy,rfl⟩:=List.mem_map.mp hx;exact(hk y (ar y hy)).2,?_⟩;rw[<-hf i him l r hR];refine ef (st.then s34) (fun x h=>⟨i,him,h⟩) mk.2 fun T5 H5 st5 stp hm=>?_;obtain⟨d1,d2⟩:=stp.own_all (s34 _ _ ed) ndp;have nZ:∀b,(Z b/\H b≠none)->¬tK T2 b:=fun b hb h=>(st.own b h).elim (hZ b hb.1) hb.2;have nD:∀b,(Z b/\H b≠none)->b≠dp:=fun b hb h=>hb.2 (h▸hdp);refine C4 (k:=.inl ((i:Nat):Int)) yv yv d1 (Nat.lt_of_le_of_lt lk (Nat.lt_trans j96 (by decide))) ⟨T5,some (iN i),some (.ref l1),some (.ref l2),_,st5.write hdp d2,by rw[stp.ext.tb];rfl,ah,d2,Nat.le_trans (eK _ _ _) (by omega),?_,?_,?_⟩
   ·rw[ai (nD lt zlt)];exact stp.kp _ _ (s34 _ _ el) (nZ lt zlt)
   ·exact((ra3.same s34).kp stp.kp nZ).kp (O:=fun b=>b=dp) (fun b o e n=>by rw[ai n];exact e) nD
   ·intro x hx;rw[a7 hj,List.mem_append,List.mem_singleton]at hx;rw[oF];by_cases e:x=i
    ·subst e;rw[if_pos rfl];exact⟨rfl,hm⟩
    ·have hx':=hx.resolve_right e;rw[if_neg,stp.ext.at (hk x hx').2]
     ·exact⟨(hk x hx').1,stp.ext.sub _ (hk x hx').2⟩
     ·intro h;injection h with h
      exact e (Int.ofNat_inj.mp h)
  ·rintro σ H2 ⟨T2,v4,v5,v6,kvs,st,rfl,ed,ndp,lk,el,ra2,hk⟩;rw[List.take_length]at hk;obtain⟨h1,h2⟩:=hk 0 h0;dsimp only;refine iG (.dget yv .c (v:=T2.at (fm 0)) ?_) (mk.1 T2 H2 st h2);rw[<-h1];exact gq.k (k:=Sum.inl ((0:Nat):Int)) ed
theorem Hi{K:W.Frag}{H:Hp}:∀b:Bytes,rH K H (bI b) (b.map fun u=>PyData.int (u.toNat:Nat))
 |[]=>.nil
 |u::b=>.cons (.int _) (Hi b)
end
end Gp
namespace Gp
open PySem PySem.Spec L2 Gth Gw
open PyProof.Rows hiding St
theorem C8:∀a b:Bytes,PyData.eqvAll (a.map fun u=>PyData.int (u.toNat:Nat)) (b.map fun u=>PyData.int (u.toNat:Nat))=decide (a=b)
 |[],[]=>rfl
 |[],_::_=>by simp[PyData.eqvAll]
 |_::_,[]=>by simp[PyData.eqvAll]
 |x::a,y::b=>by rw[List.map_cons,List.map_cons,PyData.eqvAll,C8 a b,PyData.eqv];refine Bool.eq_iff_iff.mpr ?_;rw[Bool.and_eq_true,beq_iff_eq,decide_eq_true_iff,decide_eq_true_iff,List.cons.injEq,Int.ofNat_inj,UInt8.toNat_inj]
theorem uS(b:Bytes):SeqAt.shaped (.list (b.map fun u=>PyData.int (u.toNat:Nat)))=true:=by
 unfold SeqAt.shaped
 have h1:∀b:Bytes,PyData.canLayAll0 (b.map fun u=>PyData.int (u.toNat:Nat))=true:=by
  intro b;induction b with
  |nil=>rfl
  |cons x b ih=>rw[List.map_cons,PyData.canLayAll0,ih];rfl
 have h2:∀b:Bytes,PyData.depthAll (b.map fun u=>PyData.int (u.toNat:Nat))=0:=by
  intro b;induction b with
  |nil=>rfl
  |cons x b ih=>rw[List.map_cons,PyData.depthAll,ih];rfl
 rw[PyData.canLay0,PyData.depth,h1,h2];rfl
theorem G_{K:W.Frag}{te tb:TE}{sp2:Sp}{E2:XK}{t u:TS}{σ:St}{H:Hp}{D:bN}(h:te σ H fun v H1=>sp2 ([v]++[]) H1 (fun x H2=>tb σ H2 fun y H3=>Fk K x y H3 fun v H=>∃k,v=.bl k/\(if k=true then t D σ H else u D σ H)) E2):va (uF (fB (Fk K) (fY sp2 [] E2 (a_ te ck)) tb)) t u D σ H:=h
theorem DW{CP CT:Addr}{H:Hp}{T:Tb}{m:Bool->ae->Nat}(t:bX CP CT H T m):optCount T.gs<=T.gs.length*192:=by
 have:∀l:List ae,(∀x∈l,x∈T.gs)->optCount l<=l.length*192:=by
  intro l;induction l with
  |nil=>intro _;exact Nat.zero_le _
  |cons x l ih=>intro h;rw[fP,List.length_cons];have h1:=ih fun y hy=>h y (List.mem_cons_of_mem _ hy);have h2:=ee t (h x List.mem_cons_self) (d:=false);have h3:=ee t (h x List.mem_cons_self) (d:=true);rw[qo]at h2;rw[qf]at h3;unfold optC;omega
 exact this _ fun _ h=>h
theorem zj{CP CT:Addr}{T0 T:Tb}{H0 H:Hp}{t:List Nat}{fm:Nat->ae}(st:jh CP CT (fun x=>∃i∈t,x=fm i) T0 H0 T H)(h0:T0.gs=[])(hm:T0.most=18432)(hl:t.length<=96):¬sv (fun x=>∃i∈t,x=fm i) T:=by
 rintro⟨h,hN,hn,ho,lh,hc⟩
 have hall:∀x∈h::T.gs,x∈t.map fm:=by
  intro x hx
  have:∃i∈t,x=fm i:=by
   rcases List.mem_cons.mp hx with rfl|hx
   ·exact hN
   ·rcases st.ext.new x hx with h|h
    ·rw[h0]at h;cases h
    ·exact h
  obtain⟨i,hi,rfl⟩:=this;exact List.mem_map_of_mem hi
 have l1:=aC (List.nodup_cons.mpr ⟨hn,st.tab.ok.nodup⟩) hall;rw[List.length_cons,List.length_map]at l1;have l2:=DW st.tab;have l3:∀d,(opt d h).length<=96:=fun d=>Nat.le_trans (aC (ma lh d) (ho d)) st.tab.len;have l4:optC h<=192:=Nat.add_le_add (l3 false) (l3 true);have l5:T.gs.length*192<=95*192:=Nat.mul_le_mul_right _ (by omega);rw[st.ext.most,hm]at hc;omega
theorem Eu{σ:St}{H:Hp}:aD (fB (rI zd fun i j=>.int (i*j)) (fB (rI zd fun i j=>.int (i*j)) (tC (.int 2)) (tC (.int 96))) (tC (.int 96))) σ H (iN 18432):=fun Q q=>⟨2,96,rfl,rfl,.inl ⟨by decide,by decide⟩,2*96,96,rfl,rfl,.inl ⟨by decide,by decide⟩,q⟩
def Dm(c:Cl):Sp:=fun vs H Q E=>∃(T:Tb)(l:Addr)(b:Bytes),vs=[.ref T.tb,.ref l]/\bP c.P c.T H T/\H l=some (.lst (bI b))/\b.length<=5000/\(∀g,bT b g->nq c.P c.T c.nR T H (fun x=>az x g) g Q E)/\∀H',aB H H'->(¬∃g,bT b g)->E (.ref c.nG) none H'
theorem BN{R:List iF}(h:jd R<=5000):∀r∈R,r.1.length+r.2.length<=5000:=by
 intro r hr
 have:(4+2*(r.1.length+r.2.length))<=jd R:=by
  unfold jd
  have:∀l:List Nat,∀x∈l,x<=l.sum:=by
   intro l;induction l with
   |nil=>intro x h;cases h
   |cons y l ih=>
    intro x h;rw[List.sum_cons];rcases List.mem_cons.mp h with rfl|h
    ·omega
    ·have:=ih x h;omega
  exact this _ _ (List.mem_map.mpr ⟨r,hr,rfl⟩)
 omega
section
variable{P:Program}{w:World}{K:W.Frag}{mg:Str->Option Value}{base:Heap}{c:Cl}
set_option maxHeartbeats 4000000 in
theorem qR {f:Addr} {fd:FuncData} (F:dB K "form_of_text" "form_of_text" iy f fd) (tx:dc K mg c) (gR:gX P w K mg base 2 "rows_of" ["text"] (CZ c)) (gO:gX P w K mg base 2 "options_first" ["rows"] (Ad c)) (kT:EF P w K mg base 1 c.T "Table" ["self","most_options"] (lj c)) (gB:gX P w K mg base 2 "bytes_of" ["form"] (vn c)) (gF:gX P w K mg base 6 "form_of_rows" ["table","rows","turns"] (su c)):bj P w K mg base (cH P w) 7 f fd ["table","text"] (Dm c):=by
 refine F.okX kC (fun vs H Q E h=>?_) (fun cdv A outer s H vs Q E hr L h=>?_)
 ·obtain⟨T,l,b,rfl,_⟩:=h;rfl
 ·obtain⟨T,l,b,rfl,tb,hl,hb,q1,q2⟩:=h;have nd:=kC.nd;have hr2:=hr.mono (show 2<=6 by decide);have hu64:=hr.units;refine⟨_,af (du 2 nd (bS gR hr2 L.passes (aa (pv 1) aj))) (af (du 3 nd (bS gO hr2 L.passes (aa (pv 2) aj))) (af (du 4 nd (El kT hr2 bq (aa (aO zw (aO zw aA (aL tx.MOST_PARTS)) (aL tx.MOST_PARTS)) aj))) (af (bC (aK (E6 hu64) (bS gB hr2 bq (aa (bS gF hr L.passes (aa (pv 4) (aa (pv 2) (aa (pv 3) aj)))) aj)) (pv 1) (aX _)) (ak (cN L (by rfl) tx.xnG)) a8) (ak (aN (bS gF hr L.passes (aa (pv 0) (aa (pv 2) (aa (pv 3) aj))))))))),?_⟩;refine sq (d9 (.one yv) ⟨l,b,rfl,hl,hb,fun R lr H1 s1 ra hR hpos h96 hsz=>?_,q2⟩);have hrow:=BN hsz;dsimp only;have noR:(¬∃g,R=fi g)->¬∃g,bT b g:=fun no⟨g,hg⟩=>no ⟨g,by have:=(eG hg).2.2.2;rw[hR]at this;cases this;rfl⟩;refine sq (d9 (.one yv) ⟨_,lr,R,rfl,ra,h96,hrow,fun t lt H2 hlt s2 elt ht hall=>?_,fun H' s' no=>q2 H' (s1.trans s') (noR no)⟩);have s12:=s1.trans s2;have hltH:H lt=none:=s1.free hlt;obtain⟨fm,hf⟩:=ht.tells;have h0:0∈t:=hall 0 hpos;have lt96:t.length<=96:=by have:=aC ht.nodup (P:=List.range R.length) fun x hx=>List.mem_range.mpr (cJ.lt ht hx);rw[List.length_range]at this;omega
  dsimp only;refine sq (wm (vs:=[iN 18432]) (.one Eu) fun x dx hx hdx hne=>⟨x,dx,18432,rfl,ah,fun pl sdd H3 hpl hsd kp ex epl esd=>⟨rfl,?_⟩⟩);have s3:aB H2 H3:=aB.made hx hdx kp;have s23:=s2.trans s3;have s13:=s1.trans s23
  have fr:∀{y:Addr},aI (aI H2 dx (.own x)) x (.ins c.T dx []) y=none->H2 y=none:=fun{y}h=>by
   by_cases e:y=x
   ·rw[e,ah]at h;cases h
   ·rw[ai e]at h;by_cases e':y=dx
    ·rw[e',ah]at h;cases h
    ·rwa [ai e']at h
  let T0:Tb:=⟨[],fun _=>0,fun _=>⟨0,0,0,0,0,0,0⟩,x,dx,pl,sdd,18432,[]⟩
  have t0:bP c.P c.T H3 T0:=by refine⟨⟨List.Pairwise.nil,(fun _ h=>nomatch h),(fun _ h=>nomatch h),(fun _ h=>nomatch h)⟩,ex,epl,esd,(fun _ h=>nomatch h),List.nodup_nil,(fun _ h=>nomatch h),(fun _ h=>nomatch h),Nat.zero_le _,Nat.zero_le _⟩
  have towF:∀y,tK T0 y->H2 y=none:=by
   rintro y (h|h|h|⟨z,hz,_⟩)
   ·rw[h];exact hx
   ·rw[h];exact fr hpl
   ·rw[h];exact fr hsd
   ·cases hz
  have live2:∀{y:Addr}{o:HO},H2 y=some o->¬tK T0 y:=fun e h=>by rw[towF _ h]at e;cases e
  have ra3:=((ra.same s2).live).same s3;have zlt:H lt=none/\H2 lt≠none:=⟨hltH,fun n=>by rw[n]at elt;cases elt⟩
  dsimp only;refine sq (G_ (AG (.cons yv (.cons yv (.one yv))) ⟨T0,_,lr,lt,R,t,fm,rfl,t0,ra3,fun y hy h=>hy.2 (towF y h),s3 _ _ elt,zlt,hrow,lt96,ht,hf,h0,fun T' H' st hm=>⟨T',fm 0,rfl,st.tab,hm,fun p H'' hp s4 e4=>?_⟩,fun T' H' st full=>absurd full (zj st rfl rfl lt96)⟩));have sAll:∀y o,H2 y=some o->H'' y=some o:=fun y o e=>s4 _ _ (st.kp _ _ (s3 _ _ e) (live2 e));have sH:aB H H'':=fun y o e=>sAll y o (s12 _ _ e);refine(yv:aD (aZ 1) _ H'' (.ref l)) _ ⟨.list _,.list _,.lst (aV.of e4) (Hi _),.lst (aV.of (sH _ _ hl)) (Hi _),uS _,uS _,_,rfl,?_⟩;rw[PyData.eqv,C8];by_cases hb2:cD (fm 0)=b
  ·rw[decide_eq_true hb2,if_neg (by decide)];have lf:bc (fm 0):=B6 ht hf h0;have hread:bT b (fm 0):=⟨lf,hb2,Nat.le_trans (aC (fy (fm 0)).1 fun x hx=>st.tab.ok.part hm (aP.mp hx)) st.tab.len⟩
   have mk:=q1 (fm 0) hread;have eR:R=fi (fm 0):=by have:=(eG hread).2.2.2;rw[hR]at this;cases this;rfl
   have hsub:∀x,(∃i∈t,x=fm i)->az x (fm 0):=by
    rintro x ⟨i,hi,rfl⟩;have hlt':=cJ.lt ht hi;have hf2:qp R t fun i=>(ao (fm 0)).getD i aM:=by rw[eR];exact qi lf
    have hu:=ht.unique hf hf2 i hi;rw[hu];have hil:i<(ao (fm 0)).length:=by rw[eR]at hlt';unfold fi at hlt';rwa [List.length_map]at hlt'
    show az ((ao (fm 0)).getD i aM) (fm 0);rw[List.getD_eq_getElem?_getD,List.getElem?_eq_getElem hil];exact aP.mp (List.getElem_mem hil)
   dsimp only[cO];refine wu (.cons yv (.cons yv (.one yv))) ⟨T,_,lr,lt,R,t,fm,rfl,tb.same sH,((ra.same s2).live).kp (O:=fun _=>False) (fun y o e _=>sAll y o e) fun _ _ h=>h,fun y hy h=>tb.live h hy.1,sAll _ _ elt,zlt,hrow,lt96,ht,hf,h0,ef (.same tb sH) hsub mk.2 fun T2 H2 st2 _ hm2=>mk.1 T2 H2 st2 hm2⟩
  ·rw[decide_eq_false hb2,if_pos (show(!false)=true from rfl)];exact q2 H'' sH fun⟨g,hg⟩=>hb2 (by rw[CF hR hpos ht hall hf hg];exact hg.2.1)
end
end Gp
namespace Gth
open Gw Games
theorem lZ(g:ae):(bo g).left=g.right.map bo:=by rw[oV];rfl
theorem jU(g:ae):(bo g).right=g.left.map bo:=by rw[oV];rfl
theorem xi:∀(n:Nat)(g:ae),born g<n->bo (bo g)=g
 |0,_,h=>by omega
 |n+1,g,h=>by
  rw[oV (bo g),lZ,jU,List.map_map,List.map_map];have key:∀d,(opt d g).map (bo∘bo)=opt d g:=fun d=>by refine(List.map_congr_left fun x hx=>?_).trans (List.map_id _);exact xi n x (by have:=kD hx;omega)
  have k1:=key false;have k2:=key true;rw[qo]at k1;rw[qf]at k2;rw[k1,k2];cases g;rfl
theorem wa(g:ae):bo (bo g)=g:=xi _ g (Nat.lt_succ_self _)
theorem pd:∀(n:Nat)(x y:ae),born x+born y<n->(le (bo x) (bo y)↔le y x)
 |0,_,_,h=>by omega
 |n+1,x,y,h=>by
  rw[bO,bO (x:=y)];rw[lZ,jU];constructor
  ·rintro⟨a,b⟩;refine⟨fun z hz q=>?_,fun z hz q=>?_⟩
   ·exact b (bo z) (List.mem_map_of_mem hz) ((pd n z x (by have:=l7 hz;omega)).mpr q)
   ·exact a (bo z) (List.mem_map_of_mem hz) ((pd n y z (by have:=jZ hz;omega)).mpr q)
  ·rintro⟨a,b⟩;refine⟨fun z hz q=>?_,fun z hz q=>?_⟩
   ·obtain⟨u,hu,rfl⟩:=List.mem_map.mp hz;exact b u hu ((pd n y u (by have:=jZ hu;omega)).mp q)
   ·obtain⟨u,hu,rfl⟩:=List.mem_map.mp hz;exact a u hu ((pd n u x (by have:=l7 hu;omega)).mp q)
theorem pO{x y:ae}:le (bo x) (bo y)↔le y x:=pd _ x y (Nat.lt_succ_self _)
theorem xx{g:ae}(lg:bc g){x:ae}:(x∈g.right->aq (bo x)∈(aq (bo g)).left)/\(x∈g.left->aq (bo x)∈(aq (bo g)).right):=by
 have lf:=cX (bo g);have ev:eqv (aq (bo g)) (bo g):=fE _;have ev2:eqv g (bo (aq (bo g))):=by have h1:=pO.mpr ev.1;have h2:=pO.mpr ev.2;rw[wa]at h1 h2;exact⟨h1,h2⟩
 constructor
 ·intro hx;obtain⟨z,hz,hle⟩:=lg.over ev2 hx;rw[jU]at hz;obtain⟨y,hy,rfl⟩:=List.mem_map.mp hz;have h1:le (bo x) y:=by have:=pO.mpr hle;rwa [wa]at this
  obtain⟨a,ha,hya⟩:=lf.under ev hy;rw[lZ]at ha;obtain⟨x',hx',rfl⟩:=List.mem_map.mp ha;have h2:le x' x:=pO.mp (le_trans h1 hya);have h3:x'=x:=by cases lg with|mk _ _ _ _ c=>exact c x' hx' x hx h2
  subst h3;rw[<-cC (lf.left hy) ⟨hya,h1⟩];exact hy
 ·intro hx;obtain⟨z,hz,hle⟩:=lg.under ev2 hx;rw[lZ]at hz;obtain⟨y,hy,rfl⟩:=List.mem_map.mp hz;have h1:le y (bo x):=by have:=pO.mpr hle;rwa [wa]at this
  obtain⟨a,ha,hya⟩:=lf.over ev hy;rw[jU]at ha;obtain⟨x',hx',rfl⟩:=List.mem_map.mp ha;have h2:le x x':=pO.mp (le_trans hya h1);have h3:x=x':=by cases lg with|mk _ _ _ c=>exact c x hx x' hx' h2
  subst h3;rw[<-cC (lf.right hy) ⟨h1,hya⟩];exact hy
theorem Dn{a u:ae}(h:az u a):bc a->az (aq (bo u)) (aq (bo a)):=by
 induction h with
 |refl=>intro _;exact .refl
 |left y x hy _ ih=>intro la;exact .trans (ih (la.left hy)) (.right _ _ ((xx la).2 hy) .refl)
 |right y x hy _ ih=>intro la;exact .trans (ih (la.right hy)) (.left _ _ ((xx la).1 hy) .refl)
theorem pV{a x:ae}(la:bc a)(h:x9 a x):az x (aq (bo a)):=by obtain⟨u,hu,rfl⟩:=h;exact Dn hu la
end Gth
namespace Gp
open PySem PySem.Spec L2 Gth Gw
open PyProof.Rows hiding St
open Games (Call)
def sf (tb fl:Addr):List (Str×V):=[("table",.ref tb),("forms",.ref fl)]
structure bM(c:Cl)(H:Hp)(T:Tb)(sl:List ae)(S dx fl:Addr):Prop where
 tab:bP c.P c.T H T
 obj:H S=some (.ins c.S dx (sf T.tb fl))
 lst:H fl=some (.lst (sl.map T.at))
 mem:∀x∈sl,x∈T.gs
 len:sl.length=16
 most:T.most=1024
 nS:¬cx T S
 nF:¬cx T fl
def i9(T:Tb)(sl:List ae):Prop:=∀x∈T.gs,∃y∈sl,az x y
structure Fr(fl:Addr)(T:Tb)(H:Hp)(T':Tb)(H':Hp):Prop where
 kp:Kp (fun b=>tK T b\/b=fl) H H'
 own:∀b,tK T' b->tK T b\/H b=none
 all:∀b,cx T' b->cx T b\/H b=none
 live:∀b,H' b=none->H b=none
 tb:T'.tb=T.tb
theorem Fr.refl{fl:Addr}{T:Tb}{H:Hp}:Fr fl T H T H:=⟨fun _ _ e _=>e,fun _ h=>.inl h,fun _ h=>.inl h,fun _ h=>h,rfl⟩
theorem Fr.trans{fl:Addr}{T T1 T2:Tb}{H H1 H2:Hp}(a:Fr fl T H T1 H1)(b:Fr fl T1 H1 T2 H2):Fr fl T H T2 H2:=by
 refine⟨fun c o e n=>b.kp c o (a.kp c o e n) fun q=>?_,fun c h=>?_,fun c h=>?_,fun c h=>a.live c (b.live c h),b.tb.trans a.tb⟩
 ·rcases q with q|q
  ·rcases a.own c q with q|q
   ·exact n (.inl q)
   ·rw[q]at e;cases e
  ·exact n (.inr q)
 ·exact(b.own c h).elim (a.own c) fun h=>.inr (a.live c h)
 ·exact(b.all c h).elim (a.all c) fun h=>.inr (a.live c h)
theorem Fr.of{CP CT fl:Addr}{N:ae->Prop}{T T':Tb}{H H':Hp}(s:jh CP CT N T H T' H'):Fr fl T H T' H':=⟨fun b o e n=>s.kp b o e fun h=>n (.inl h),s.own,fun b h=>(s.all b h).imp id fun h=>h.elim id False.elim,s.live,s.ext.tb⟩
theorem Fr.kept{CP CT fl:Addr}{Bs:List ae}{T T':Tb}{H H':Hp}(s:Dk CP CT Bs T H T' H'):Fr fl T H T' H':=⟨fun b o e n=>s.kp b o e fun h=>n (.inl h),s.own,s.all,s.live,s.tb⟩
theorem Fr.same{fl:Addr}{T:Tb}{H H':Hp}(s:aB H H'):Fr fl T H T H':=⟨fun _ _ e _=>s _ _ e,fun _ h=>.inl h,fun _ h=>.inl h,fun _ h=>s.free h,rfl⟩
theorem Fr.set{fl:Addr}{T:Tb}{H:Hp}{o:HO}:Fr fl T H T (aI H fl o):=⟨fun b u e n=>by rw[ai fun h=>n (.inr h)];exact e,fun _ h=>.inl h,fun _ h=>.inl h,fun b h=>by
 by_cases e:b=fl
 ·rw[e,ah]at h;cases h
 ·rwa [ai e]at h,rfl⟩
section
variable{c:Cl}{H H':Hp}{T T':Tb}{sl:List ae}{S dx fl:Addr}{N:ae->Prop}{g:ae}{d:Nat}
theorem bM.stp(h:bM c H T sl S dx fl)(s:jh c.P c.T N T H T' H'):bM c H' T' sl S dx fl:=by obtain⟨o1,o2⟩:=s.own_all h.obj h.nS;obtain⟨f1,f2⟩:=s.own_all h.lst h.nF;exact⟨s.tab,by rw[s.ext.tb];exact o1,by rw[s.ext.ats h.mem];exact f1,fun x hx=>s.ext.sub x (h.mem x hx),h.len,s.ext.most.trans h.most,o2,f2⟩
theorem bM.same(h:bM c H T sl S dx fl)(s:aB H H'):bM c H' T sl S dx fl:=h.stp (N:=fun _=>False) (.same h.tab s)
theorem bM.put(h:bM c H T sl S dx fl)(hg:g∈T.gs):bM c (aI H fl (.lst ((sl.map T.at).set d (T.at g)))) T (sl.set d g) S dx fl:=by
 have nSf:S≠fl:=cv h.obj h.lst fun e=>by cases e
 refine⟨h.tab.apart h.nF fun b o e n=>by rw[ai n];exact e,by rw[ai nSf];exact h.obj,by rw[ah,List.map_set],fun x hx=>?_,by rw[List.length_set];exact h.len,h.most,h.nS,h.nF⟩;rcases List.mem_or_eq_of_mem_set hx with hx|rfl
 ·exact h.mem x hx
 ·exact hg
theorem bM.val(h:bM c H T sl S dx fl){a:Nat}(ha:a<16):val sl a∈sl/\(sl.map T.at)[a]?=some (T.at (val sl a)):=by
 have hl:a<sl.length:=by rw[h.len];exact ha
 have e:Gth.val sl a=sl[a]:=by unfold Gth.val;rw[List.getD_eq_getElem?_getD,List.getElem?_eq_getElem hl];rfl
 rw[e];exact⟨List.getElem_mem hl,by rw[List.getElem?_map,List.getElem?_eq_getElem hl];rfl⟩
theorem wW{Q:ae->Prop}(h:bM c H T sl S dx fl)(hQ:∀x,Q x->x∈T.gs\/x∈sl):b7 Q:=by
 refine BY h.tab.ok.nodup h.tab.len (by rw[<-h.most];exact h.tab.opt) fun x hx p hp=>?_;rcases hQ x hx with h1|h1
 ·exact h.tab.ok.part h1 hp
 ·exact h.tab.ok.part (h.mem x h1) hp
theorem v9{Q:ae->Prop}(hm:T.most=1024)(ti:i9 T sl)(s:jh c.P c.T N T H T' H')(f:sv N T')(hN:∀x,N x->∃y,Q y/\az x y)(hs:∀x∈sl,Q x):¬b7 Q:=by
 obtain⟨h,hNh,hn,_,_,hc⟩:=f;rw[s.ext.most,hm]at hc;refine o_ s.tab.ok.nodup hn (fun p hp=>?_) (hN h hNh) hc;rcases s.ext.new p hp with h1|h1
 ·obtain⟨y,hy,hp⟩:=ti p h1;exact⟨y,hs y hy,hp⟩
 ·exact hN p h1
theorem ie(h:bM c H T sl S dx fl)(hg:g∈T.gs):cQ sl d g=(sl.set d g,says 0):=by unfold cQ;rw[if_pos (wW h fun x hx=>hx.imp (fun(e:x=g)=>by rw[e];exact hg) id)]
theorem jV(hm:T.most=1024)(ti:i9 T sl)(s:jh c.P c.T N T H T' H')(f:sv N T')(hN:∀x,N x->az x g):cQ sl d g=(sl,says (-5)):=by unfold cQ;rw[if_neg (v9 (Q:=fun x=>x=g\/x∈sl) hm ti s f (fun x hx=>⟨g,.inl rfl,hN x hx⟩) fun x hx=>.inr hx)]
end
end Gp
namespace Gp
open PySem PySem.Spec L2 Gth Gw
open PyProof.Rows hiding St
open Games (Call isSlot)
def fU(c:Cl):List (Addr×Int):=[(c.oP,-1),(c.oR,-2),(c.nG,-3),(c.nR,-5)]
theorem DA{c:Cl}:(c.oP,(-1:Int))∈fU c:=by unfold fU;simp
theorem HB{c:Cl}:(c.oR,(-2:Int))∈fU c:=by unfold fU;simp
theorem HV{c:Cl}:(c.nG,(-3:Int))∈fU c:=by unfold fU;simp
theorem Hd{c:Cl}:(c.nR,(-5:Int))∈fU c:=by unfold fU;simp
def DC(c:Cl)(S dx fl:Addr)(T:Tb)(H:Hp)(sl:List ae)(call:Call)(Q:VK)(E:XK):Prop:=(∀T' H',Fr fl T H T' H'->bM c H' T' (aG sl call).1 S dx fl->(aG sl call).2=says 0->Q .non H')/\∀cls k T' H',(cls,k)∈fU c->Fr fl T H T' H'->bM c H' T' sl S dx fl->aG sl call=(sl,says k)->E (.ref cls) none H'
def dt(c:Cl):Sp:=fun vs H Q E=>∃(l:Addr)(ns:List Nat),vs=[.ref l]/\H l=some (.lst (ns.map iN))/\((∀n∈ns,n<16)->Q .non H)/\((¬∀n∈ns,n<16)->E (.ref c.oP) none H)
def Cm(c:Cl):Sp:=fun vs H Q E=>∃n:Nat,vs=[iN n]/\(n<2->Q .non H)/\(2<=n->E (.ref c.oP) none H)
def EB(c:Cl):Sp:=fun vs H Q E=>∃(l:Addr)(ns:List Nat),vs=[.ref l]/\H l=some (.lst (ns.map iN))/\(ns.length<=32->(∀n∈ns,n<16)->Q .non H)/\(¬(ns.length<=32/\∀n∈ns,n<16)->E (.ref c.oP) none H)
theorem cM{c:Cl}{t:TA}{σ:St}{H:Hp}{D:bN}{E:XK}{ns:List Nat}(h:YA t σ H (ns.map iN))(z:(ns.map iN).length<=sizeLine)(q1:(∀n∈ns,n<16)->∀H',aB H H'->D.nx σ H')(q2:(¬∀n∈ns,n<16)->∀H',aB H H'->E (.ref c.oP) none H'):ka (fY (dt c) [] E (a_ (nP t) ck)) D σ H:=h _ ⟨z,fun p hp=>⟨p,ns,rfl,ah,fun k=>q1 k _ (aW hp),fun k=>q2 k _ (aW hp)⟩⟩
theorem bG{n:Nat}(h:n<16):isSlot n=true:=decide_eq_true h
theorem df{n:Nat}(h:¬n<16):isSlot n=false:=decide_eq_false h
section
variable{K:W.Frag}{mg:Str->Option Value}{c:Cl}{H:Hp}{T:Tb}{sl:List ae}{S dx fl:Addr}{σ:St}{te ti:TE}
theorem dn (tx:dc K mg c) (h:bM c H T sl S dx fl) (y:aD te σ H (.ref S)):aD (dO K te "table") σ H (.ref T.tb):=.fld y h.obj tx.clS tx.table rfl
theorem rm (tx:dc K mg c) (h:bM c H T sl S dx fl) (y:aD te σ H (.ref S)):aD (dO K te "forms") σ H (.ref fl):=.fld y h.obj tx.clS tx.forms rfl
theorem i_ (tx:dc K mg c) (h:bM c H T sl S dx fl) (y:aD te σ H (.ref S)) {a:Nat} (ha:a<16) (hi:aD ti σ H (iN a)):aD (fB (kh K) (dO K te "forms") ti) σ H (T.at (val sl a)):=.ixL (rm tx h y) hi (aV.of h.lst) (oi rfl (h.val ha).2)
theorem qY {D:bN} {g:ae} {d:Nat} (tx:dc K mg c) (h:bM c H T sl S dx fl) (y:aD te σ H (.ref S)) (hi:aD ti σ H (iN d)) (hd:d<16) (q:D.nx σ (aI H fl (.lst ((sl.map T.at).set d (T.at g))))):FS (dO K te "forms") ti xw (T.at g) σ H D.nx:=rm tx h y _ (hi _ ⟨fl,_,_,d,rfl,rfl,h.lst,by unfold Dz;rw[if_pos (by omega),List.length_map,h.len,if_pos (by omega),Int.toNat_natCast],q⟩)
theorem k6{N:ae->Prop}{g:ae}{d:Nat}{call:Call}{Q:VK}{E:XK}{D:bN}(tx:dc K mg c)(h:bM c H T sl S dx fl)(ti':i9 T sl)(an:DC c S dx fl T H sl call Q E){H1:Hp}(s1:aB H H1)(hd:d<16)(hD:D.nx=fun _ H'=>Q .non H') (y:∀H',aD te σ H' (.ref S)) (hi:∀H',aD ti σ H' (iN d)) (hy:∀T' H',bM c H' T' sl S dx fl->g∈T'.gs->aG sl call=(sl.set d g,says 0)) (hn:∀T' H',jh c.P c.T N T H T' H'->sv N T'->aG sl call=(sl,says (-5))) :nq c.P c.T c.nR T H1 N g (fun v H'=>FS (dO K te "forms") ti xw v σ H' D.nx) E:=by refine ef (.same h.tab s1) (fun _ h=>h) (fun T' H' st f=>an.2 c.nR (-5) T' H' Hd (Fr.of st) (h.stp st) (hn T' H' st f)) fun T2 H2 st _ hm=>?_;have h2:=h.stp st;refine qY tx h2 (y H2) (hi H2) hd ?_;have e:=hy T2 H2 h2 hm;rw[hD];refine an.1 T2 _ ((Fr.of st).trans Fr.set) ?_ (by rw[e]);rw[e];exact h2.put hm
end
theorem lE{C:Prop}{t:TA}{vs:List V}{sp:Sp}{E:XK}{g:TG}{σ:St}{H:Hp}{D:bN}(h:YA t σ H vs)(q:sp (vs++[]) H (fun v H1=>g v σ H1 D.nx) E):fV (fY sp [] E t) g D σ H:=h _ q
section
variable{P:Program}{w:World}{K:W.Frag}{mg:Str->Option Value}{base:Heap}{c:Cl}
theorem rK {f:Addr} {fd:FuncData} (F:dB K "check_slots" "check_slots" iW f fd) (tx:dc K mg c):bj P w K mg base (cH P w) 1 f fd ["numbers"] (dt c):=by
 refine F.okX m9 (fun vs H Q E h=>?_) (fun cdv A outer s H vs Q E hr L h=>?_)
 ·obtain⟨l,ns,rfl,_⟩:=h;rfl
 ·obtain⟨l,ns,rfl,hl,q1,q2⟩:=h;have nd:=m9.nd;refine⟨_,ak (cg L.pass L.calm (oK K (pv 0)) (jc 1 nd) (ak (bC (aK AB (pv 1) (aL tx.SLOTS) (aX _)) (ak (cN L (by rfl) tx.xoP)) a8))),?_⟩;refine t7 (xs:=ns) (f:=iN) yv (fun i σ H'=>∃v,σ=[some (.ref l),v]/\H=H'/\∀n∈ns.take i,n<16) (aV.of hl) ⟨none,rfl,rfl,fun n h=>by simp at h⟩ (fun i σ H' _⟨_,_,e,_⟩=>by rw[<-e];exact aV.of hl) ?_ ?_
  ·rintro i n σ H' hn ⟨v,rfl,rfl,hk⟩;refine iD (b':=decide (16<=n)) (Yt.b (aD.i0 yv .c)) (decide_eq_decide.mpr ⟨fun h=>by omega,fun h=>by omega⟩) (fun hb=>?_) (fun hb=>?_)
   ·exact q2 fun h=>by have:=h n (List.mem_of_getElem? hn);have:=of_decide_eq_true hb;omega
   ·refine⟨_,rfl,rfl,fun m hm=>?_⟩;rw[a7 hn,List.mem_append,List.mem_singleton]at hm;rcases hm with hm|rfl
    ·exact hk m hm
    ·have:=of_decide_eq_false hb;omega
  ·rintro σ H' ⟨v,rfl,rfl,hk⟩;rw[List.take_length]at hk;exact q1 hk
theorem tT {f:Addr} {fd:FuncData} (F:dB K "check_side" "check_side" jz f fd) (tx:dc K mg c):bj P w K mg base (cH P w) 1 f fd ["side"] (Cm c):=by
 refine F.okX vT (fun vs H Q E h=>?_) (fun cdv A outer s H vs Q E hr L h=>?_)
 ·obtain⟨n,rfl,_⟩:=h;rfl
 ·obtain⟨n,rfl,q1,q2⟩:=h;refine⟨_,ak (bC (aK AB (pv 0) (aL tx.SIDES) (aX _)) (ak (cN L (by rfl) tx.xoP)) a8),?_⟩;refine iD (b':=decide (2<=n)) (Yt.b (aD.i0 yv .c)) (decide_eq_decide.mpr ⟨fun h=>by omega,fun h=>by omega⟩) (fun hb=>q2 (of_decide_eq_true hb)) (fun hb=>q1 (by have:=of_decide_eq_false hb;omega))
theorem u6 {f:Addr} {fd:FuncData} (F:dB K "check_row" "check_row" kI f fd) (tx:dc K mg c) (gC:gX P w K mg base 1 "check_slots" ["numbers"] (dt c)):bj P w K mg base (cH P w) 2 f fd ["row"] (EB c):=by
 refine F.okX xf (fun vs H Q E h=>?_) (fun cdv A outer s H vs Q E hr L h=>?_)
 ·obtain⟨l,ns,rfl,_⟩:=h;rfl
 ·obtain⟨l,ns,rfl,hl,q1,q2⟩:=h;refine⟨_,af (bC (aK ow (aJ (gH K) (by rfl) tx.len PySem.boot_len (aa (pv 0) aj)) (aL tx.LONGEST_ROW) (aX _)) (ak (cN L (by rfl) tx.xoP)) a8) (ak (aR (bS gC hr L.passes (aa (pv 0) aj)))),?_⟩;refine sq (iD (b':=decide (32<ns.length)) (Yt.b (aD.i0 (.len (aD.one yv) (aV.of hl)) .c)) (by rw[List.length_map];exact decide_eq_decide.mpr ⟨fun h=>by omega,fun h=>by omega⟩) (fun hb=>q2 fun h=>by have:=of_decide_eq_true hb;omega) (fun hb=>?_));have hb:=of_decide_eq_false hb;dsimp only[cO];exact kK (.one yv) ⟨l,ns,rfl,hl,fun k=>q1 (by omega) k,fun k=>q2 fun h=>k h.2⟩
def EK(c:Cl):Sp:=fun vs H Q E=>∃(S dx fl:Addr)(T:Tb)(sl:List ae)(d:Nat)(m:Int)(k:Nat),vs=[.ref S,iN d,.int m,iN k]/\m.natAbs<2^64/\bM c H T sl S dx fl/\i9 T sl/\DC c S dx fl T H sl (.number d m k) Q E
theorem t8 {f:Addr} {fd:FuncData} (F:dB K "put_number" "Slots.put_number" eE f fd) (tx:dc K mg c) (gC:gX P w K mg base 1 "check_slots" ["numbers"] (dt c)) (gN:gX P w K mg base 7 "number_form" ["table","m","k"] (xK c)) :bj P w K mg base (cH P w) 8 f fd ["self","d","m","k"] (EK c):=by
 refine F.okX nN (fun vs H Q E h=>?_) (fun cdv A outer s H vs Q E hr L h=>?_)
 ·obtain⟨S,dx,fl,T,sl,d,m,k,rfl,_⟩:=h;rfl
 ·obtain⟨S,dx,fl,T,sl,d,m,k,rfl,hm,h,ti,an⟩:=h;refine⟨_,af (aR (bS gC (hr.mono (show 1<=7 by decide)) L.passes (aa (bb (aa (pv 1) aj)) aj))) (af (bC (aK ow (pv 3) (aL tx.MOST_HALVINGS) (aX _)) (ak (cN L (by rfl) tx.xoR)) a8) (ak (kH (bS gN hr L.passes (aa (fk K (pv 0)) (aa (pv 2) (aa (pv 3) aj)))) (lC (fk K (pv 0)) (pv 1) de)))),?_⟩;refine sq (cM (ns:=[d]) (.one yv) (by show 1<=sizeLine;decide) (fun hk H1 s1=>?_) (fun hk H1 s1=>?_))
  ·have hd:d<16:=hk d (by simp);have h1:=h.same s1;dsimp only;refine sq (iD (b':=decide (62<k)) (Yt.b (aD.i0 yv .c)) (decide_eq_decide.mpr ⟨fun h=>by omega,fun h=>by omega⟩) (fun hb=>?_) (fun hb=>?_))
   ·refine an.2 c.oR (-2) T H1 HB (.same s1) h1 ?_;unfold aG;dsimp only;rw[bG hd,if_neg (by decide),if_pos (of_decide_eq_true hb)]
   ·have hb:=of_decide_eq_false hb;dsimp only[cO];refine lE (C:=True) (.cons (dn tx h1 yv) (.cons yv (.one yv))) ⟨T,m,k,rfl,by omega,hm,h1.tab,k6 tx h ti an s1 hd rfl (fun _=>yv) (fun _=>yv) (fun T' H' h' hg=>?_) fun T' H' st f=>?_⟩
    ·unfold aG;dsimp only;rw[bG hd,if_neg (by decide),if_neg hb];exact ie h' hg
    ·unfold aG;dsimp only;rw[bG hd,if_neg (by decide),if_neg hb];exact jV h.most ti st f fun x hx=>hx
  ·refine an.2 c.oP (-1) T H1 DA (.same s1) (h.same s1) ?_;unfold aG;dsimp only;rw[df fun h=>hk (by simpa using h),if_pos rfl]
end
theorem qS{d a:Nat}(h:¬∀n∈[d,a],n<16):isSlot d=false\/isSlot a=false:=by
 apply Classical.byContradiction;intro no;rw[not_or]at no;refine h fun n hn=>?_;have h1:d<16:=Classical.byContradiction fun k=>no.1 (df k);have h2:a<16:=Classical.byContradiction fun k=>no.2 (df k);simp only[List.mem_cons,List.not_mem_nil,or_false]at hn;rcases hn with rfl|rfl
 ·exact h1
 ·exact h2
theorem o4{d a:Nat}(h:∀n∈[d,a],n<16):¬(isSlot d=false\/isSlot a=false):=by rw[bG (h d (by simp)),bG (h a (by simp))];simp
theorem CW{d a b:Nat}(h:¬∀n∈[d,a,b],n<16):isSlot d=false\/isSlot a=false\/isSlot b=false:=by
 apply Classical.byContradiction;intro no;rw[not_or,not_or]at no;refine h fun n hn=>?_;have h1:d<16:=Classical.byContradiction fun k=>no.1 (df k);have h2:a<16:=Classical.byContradiction fun k=>no.2.1 (df k);have h3:b<16:=Classical.byContradiction fun k=>no.2.2 (df k);simp only[List.mem_cons,List.not_mem_nil,or_false]at hn;rcases hn with rfl|rfl|rfl
 ·exact h1
 ·exact h2
 ·exact h3
theorem yb{d a b:Nat}(h:∀n∈[d,a,b],n<16):¬(isSlot d=false\/isSlot a=false\/isSlot b=false):=by rw[bG (h d (by simp)),bG (h a (by simp)),bG (h b (by simp))];simp
section
variable{P:Program}{w:World}{K:W.Frag}{mg:Str->Option Value}{base:Heap}{c:Cl}
def Gm(c:Cl):Sp:=fun vs H Q E=>∃(S dx fl:Addr)(T:Tb)(sl:List ae)(d n:Nat),vs=[.ref S,iN d,iN n]/\bM c H T sl S dx fl/\i9 T sl/\DC c S dx fl T H sl (.heap d n) Q E
theorem yp {f:Addr} {fd:FuncData} (F:dB K "put_heap" "Slots.put_heap" fN f fd) (tx:dc K mg c) (gC:gX P w K mg base 1 "check_slots" ["numbers"] (dt c)) (gN:gX P w K mg base 7 "heap_form" ["table","n"] (BR c)) :bj P w K mg base (cH P w) 8 f fd ["self","d","n"] (Gm c):=by
 refine F.okX pM (fun vs H Q E h=>?_) (fun cdv A outer s H vs Q E hr L h=>?_)
 ·obtain⟨S,dx,fl,T,sl,d,n,rfl,_⟩:=h;rfl
 ·obtain⟨S,dx,fl,T,sl,d,n,rfl,h,ti,an⟩:=h;refine⟨_,af (aR (bS gC (hr.mono (show 1<=7 by decide)) L.passes (aa (bb (aa (pv 1) aj)) aj))) (ak (kH (bS gN hr L.passes (aa (fk K (pv 0)) (aa (pv 2) aj))) (lC (fk K (pv 0)) (pv 1) de))),?_⟩;refine sq (cM (ns:=[d]) (.one yv) (by show 1<=sizeLine;decide) (fun hk H1 s1=>?_) (fun hk H1 s1=>?_))
  ·have hd:d<16:=hk d (by simp);have h1:=h.same s1;dsimp only;refine lE (C:=True) (.cons (dn tx h1 yv) (.one yv)) ⟨T,n,rfl,h1.tab,k6 tx h ti an s1 hd rfl (fun _=>yv) (fun _=>yv) (fun T' H' h' hg=>?_) fun T' H' st f=>?_⟩
   ·unfold aG;dsimp only;rw[bG hd,if_neg (by decide)];exact ie h' hg
   ·unfold aG;dsimp only;rw[bG hd,if_neg (by decide)];exact jV h.most ti st f fun x hx=>hx
  ·refine an.2 c.oP (-1) T H1 DA (.same s1) (h.same s1) ?_;unfold aG;dsimp only;rw[df fun h=>hk (by simpa using h),if_pos rfl]
def ER(c:Cl):Sp:=fun vs H Q E=>∃(S dx fl:Addr)(T:Tb)(sl:List ae)(d a:Nat),vs=[.ref S,iN d,iN a]/\bM c H T sl S dx fl/\i9 T sl/\DC c S dx fl T H sl (.minus d a) Q E
theorem wj {f:Addr} {fd:FuncData} (F:dB K "put_minus" "Slots.put_minus" eV f fd) (tx:dc K mg c) (gC:gX P w K mg base 1 "check_slots" ["numbers"] (dt c)) (gN:gX P w K mg base 6 "minus_form" ["table","game"] (vF c)) :bj P w K mg base (cH P w) 7 f fd ["self","d","a"] (ER c):=by
 refine F.okX oM (fun vs H Q E h=>?_) (fun cdv A outer s H vs Q E hr L h=>?_)
 ·obtain⟨S,dx,fl,T,sl,d,a,rfl,_⟩:=h;rfl
 ·obtain⟨S,dx,fl,T,sl,d,a,rfl,h,ti,an⟩:=h;refine⟨_,af (aR (bS gC (hr.mono (show 1<=6 by decide)) L.passes (aa (bb (aa (pv 1) (aa (pv 2) aj))) aj))) (ak (kH (bS gN hr L.passes (aa (fk K (pv 0)) (aa (ba K (fk K (pv 0)) (pv 2) (fun _ _=>rfl)) aj))) (lC (fk K (pv 0)) (pv 1) de))),?_⟩;refine sq (cM (ns:=[d,a]) (.cons yv (.one yv)) (by show 2<=sizeLine;decide) (fun hk H1 s1=>?_) (fun hk H1 s1=>?_))
  ·have hd:d<16:=hk d (by simp);have ha:a<16:=hk a (by simp);have h1:=h.same s1;have hva:=h.mem _ (h.val ha).1;dsimp only;refine lE (C:=True) (.cons (dn tx h1 yv) (.one (i_ tx h1 yv ha yv))) ⟨T,val sl a,rfl,h1.tab,hva,k6 tx h ti an s1 hd rfl (fun _=>yv) (fun _=>yv) (fun T' H' h' hg=>?_) fun T' H' st f=>?_⟩
   ·unfold aG;dsimp only;rw[if_neg (o4 hk)];exact ie h' hg
   ·unfold aG;dsimp only;rw[if_neg (o4 hk)];exact jV h.most ti st f fun x hx=>pV (h.tab.ok.least _ hva) hx
  ·refine an.2 c.oP (-1) T H1 DA (.same s1) (h.same s1) ?_;unfold aG;dsimp only;rw[if_pos (qS hk)]
def Gs(c:Cl):Sp:=fun vs H Q E=>∃(S dx fl:Addr)(T:Tb)(sl:List ae)(d a b:Nat),vs=[.ref S,iN d,iN a,iN b]/\bM c H T sl S dx fl/\i9 T sl/\DC c S dx fl T H sl (.sum d a b) Q E
theorem AH{H:Hp}{T:Tb}{sl:List ae}{S dx fl:Addr}{N:ae->Prop}{a b:ae}{H':Hp}{T':Tb}(h':bM c H' T' sl S dx fl)(hall:∀u v,az u a->az v b->aq (bt u v)∈T'.gs):gE sl a b:=wW h' fun x hx=>hx.imp (fun⟨u,v,hu,hv,e⟩=>by rw[e];exact hall u v hu hv) id
end
section
variable{P:Program}{w:World}{K:W.Frag}{mg:Str->Option Value}{base:Heap}{c:Cl}
theorem yQ {f:Addr} {fd:FuncData} (F:dB K "put_sum" "Slots.put_sum" gu f fd) (tx:dc K mg c) (gC:gX P w K mg base 1 "check_slots" ["numbers"] (dt c)) (gN:gX P w K mg base 6 "sum_form" ["table","a","b"] (zU c)) :bj P w K mg base (cH P w) 7 f fd ["self","d","a","b"] (Gs c):=by
 refine F.okX qL (fun vs H Q E h=>?_) (fun cdv A outer s H vs Q E hr L h=>?_)
 ·obtain⟨S,dx,fl,T,sl,d,a,b,rfl,_⟩:=h;rfl
 ·obtain⟨S,dx,fl,T,sl,d,a,b,rfl,h,ti,an⟩:=h;refine⟨_,af (aR (bS gC (hr.mono (show 1<=6 by decide)) L.passes (aa (bb (aa (pv 1) (aa (pv 2) (aa (pv 3) aj)))) aj))) (ak (kH (bS gN hr L.passes (aa (fk K (pv 0)) (aa (ba K (fk K (pv 0)) (pv 2) (fun _ _=>rfl)) (aa (ba K (fk K (pv 0)) (pv 3) (fun _ _=>rfl)) aj)))) (lC (fk K (pv 0)) (pv 1) de))),?_⟩;refine sq (cM (ns:=[d,a,b]) (.cons yv (.cons yv (.one yv))) (by show 3<=sizeLine;decide) (fun hk H1 s1=>?_) (fun hk H1 s1=>?_))
  ·have hd:d<16:=hk d (by simp);have ha:a<16:=hk a (by simp);have hb:b<16:=hk b (by simp);have h1:=h.same s1;dsimp only;refine lE (C:=True) (.cons (dn tx h1 yv) (.cons (i_ tx h1 yv ha yv) (.one (i_ tx h1 yv hb yv)))) ⟨T,val sl a,val sl b,rfl,h1.tab,h.mem _ (h.val ha).1,h.mem _ (h.val hb).1,fun T2 H2 st hall=>?_,fun T2 H2 st f=>?_⟩
   ·have st:=o5.after h.tab s1 st;have h2:=h.stp st;have e:aG sl (.sum d a b)=(sl.set d (aq (bt (val sl a) (val sl b))),says 0):=by unfold aG;dsimp only;rw[if_neg (yb hk),if_pos (AH (H:=H) (T:=T) (N:=fun _=>True) h2 hall)]
    refine qY tx h2 yv yv hd (an.1 T2 _ ((Fr.of st).trans Fr.set) ?_ (by rw[e]));rw[e];exact h2.put (hall _ _ .refl .refl)
   ·have st:=o5.after h.tab s1 st;refine an.2 c.nR (-5) T2 H2 Hd (Fr.of st) (h.stp st) ?_;unfold aG;dsimp only;rw[if_neg (yb hk),if_neg (show ¬gE sl (val sl a) (val sl b)from v9 (Q:=fun x=>gL (val sl a) (val sl b) x\/x∈sl) h.most ti st f (fun x hx=>⟨x,.inl hx,.refl⟩) fun x hx=>.inr hx)]
  ·refine an.2 c.oP (-1) T H1 DA (.same s1) (h.same s1) ?_;unfold aG;dsimp only;rw[if_pos (CW hk)]
def Gh(c:Cl):Sp:=fun vs H Q E=>∃(S dx fl:Addr)(T:Tb)(sl:List ae)(d:Nat)(l:Addr)(b:Bytes),vs=[.ref S,iN d,.ref l]/\H l=some (.lst (bI b))/\b.length<=5000/\bM c H T sl S dx fl/\i9 T sl/\DC c S dx fl T H sl (.read d b) Q E
theorem xc {f:Addr} {fd:FuncData} (F:dB K "put_read" "Slots.put_read" fD f fd) (tx:dc K mg c) (gC:gX P w K mg base 1 "check_slots" ["numbers"] (dt c)) (gN:gX P w K mg base 7 "form_of_text" ["table","text"] (Dm c)) :bj P w K mg base (cH P w) 8 f fd ["self","d","text"] (Gh c):=by
 refine F.okX pC (fun vs H Q E h=>?_) (fun cdv A outer s H vs Q E hr L h=>?_)
 ·obtain⟨S,dx,fl,T,sl,d,l,b,rfl,_⟩:=h;rfl
 ·obtain⟨S,dx,fl,T,sl,d,l,b,rfl,hl,hb,h,ti,an⟩:=h;refine⟨_,af (aR (bS gC (hr.mono (show 1<=7 by decide)) L.passes (aa (bb (aa (pv 1) aj)) aj))) (ak (kH (bS gN hr L.passes (aa (fk K (pv 0)) (aa (pv 2) aj))) (lC (fk K (pv 0)) (pv 1) de))),?_⟩;refine sq (cM (ns:=[d]) (.one yv) (by show 1<=sizeLine;decide) (fun hk H1 s1=>?_) (fun hk H1 s1=>?_))
  ·have hd:d<16:=hk d (by simp);have h1:=h.same s1;dsimp only;refine lE (C:=True) (.cons (dn tx h1 yv) (.one yv)) ⟨T,l,b,rfl,h1.tab,s1 _ _ hl,hb,fun g hg=>?_,fun H' s2 no=>?_⟩
   ·have ex:∃g,bT b g:=⟨g,hg⟩
    have eg:Classical.choose ex=g:=bT.unique (Classical.choose_spec ex) hg;refine k6 tx h ti an s1 hd rfl (fun _=>yv) (fun _=>yv) (fun T' H' h' hg'=>?_) fun T' H' st f=>?_
    ·unfold aG;dsimp only;rw[bG hd,if_neg (by decide),dif_pos ex,eg];exact ie h' hg'
    ·unfold aG;dsimp only;rw[bG hd,if_neg (by decide),dif_pos ex,eg];exact jV h.most ti st f fun x hx=>hx
   ·refine an.2 c.nG (-3) T H' HV (.same (s1.trans s2)) (h1.same s2) ?_;unfold aG;dsimp only;rw[bG hd,if_neg (by decide),dif_neg no]
  ·refine an.2 c.oP (-1) T H1 DA (.same s1) (h.same s1) ?_;unfold aG;dsimp only;rw[df fun h=>hk (by simpa using h),if_pos rfl]
def GP(c:Cl):Sp:=fun vs H Q E=>∃(S dx fl:Addr)(T:Tb)(sl:List ae)(d a side i:Nat),vs=[.ref S,iN d,iN a,iN side,iN i]/\bM c H T sl S dx fl/\i9 T sl/\DC c S dx fl T H sl (.option d a side i) Q E
theorem Gz{te:TE}{g:TG}{σ:St}{H:Hp}{D:bN}{v:V}(h:aD te σ H v)(q:g v σ H D.nx):fV te g D σ H:=h _ q
theorem tN {f:Addr} {fd:FuncData} (F:dB K "put_option" "Slots.put_option" eA f fd) (tx:dc K mg c) (gC:gX P w K mg base 1 "check_slots" ["numbers"] (dt c)) (gS:gX P w K mg base 1 "check_side" ["side"] (Cm c)) :bj P w K mg base (cH P w) 2 f fd ["self","d","a","side","i"] (GP c):=by
 refine F.okX iw (fun vs H Q E h=>?_) (fun cdv A outer s H vs Q E hr L h=>?_)
 ·obtain⟨S,dx,fl,T,sl,d,a,side,i,rfl,_⟩:=h;rfl
 ·obtain⟨S,dx,fl,T,sl,d,a,side,i,rfl,h,ti,an⟩:=h;have nd:=iw.nd;refine⟨_,af (aR (bS gC hr L.passes (aa (bb (aa (pv 1) (aa (pv 2) aj))) aj))) (af (aR (bS gS hr L.passes (aa (pv 3) aj))) (af (du 5 nd (cu K (fk K (ba K (fk K (pv 0)) (pv 2) (fun _ _=>rfl))) (pv 3) (fun _ _=>rfl))) (af (bC (aK AB (pv 4) (aJ (gH K) (by rfl) tx.len PySem.boot_len (aa (pv 5) aj)) (aX _)) (ak (cN L (by rfl) tx.xoR)) a8) (ak (kH (ba K (pv 5) (pv 4) (fun _ _=>rfl)) (lC (fk K (pv 0)) (pv 1) de)))))),?_⟩;refine sq (cM (ns:=[d,a]) (.cons yv (.one yv)) (by show 2<=sizeLine;decide) (fun hk H1 s1=>?_) (fun hk H1 s1=>?_))
  ·have hd:d<16:=hk d (by simp);have ha:a<16:=hk a (by simp);have h1:=h.same s1;have hva:=h.mem _ (h.val ha).1;have na:=o4 hk;rw[not_or]at na;dsimp only;refine sq (kK (.one yv) ⟨side,rfl,fun hs=>?_,fun hs=>?_⟩)
   ·obtain⟨dd,ed⟩:∃dd:Bool,(iN side)=V.int (sd dd)/\(if side=0 then(val sl a).left else(val sl a).right)=opt dd (val sl a):=by
     rcases Nat.lt_or_ge side 1 with c1|c1
     ·have:side=0:=by omega
      subst this;exact⟨false,rfl,rfl⟩
     ·have:side=1:=by omega
      subst this;exact⟨true,rfl,rfl⟩
    have na2:¬(isSlot d=false\/isSlot a=false\/1<side):=fun h=>h.elim na.1 fun h=>h.elim na.2 fun h=>by omega
    dsimp only;refine sq (fH (iQ (d:=dd) tx h1.tab hva (i_ tx h1 yv ha yv) (by rw[<-ed.1];exact yv)) ?_);have hrow:=fg h1.tab hva (d:=dd);dsimp only;refine sq (iD (b':=decide ((opt dd (val sl a)).length<=i)) (Yt.b (aD.i0 yv (.len (aD.one yv) (aV.of hrow)))) (by rw[List.length_map];exact decide_eq_decide.mpr ⟨fun h=>by omega,fun h=>by omega⟩) (fun hb=>?_) (fun hb=>?_))
    ·refine an.2 c.oR (-2) T H1 HB (.same s1) h1 ?_;unfold aG;dsimp only;rw[if_neg na2,ed.2,List.getElem?_eq_none (of_decide_eq_true hb)]
    ·have hb:i<(opt dd (val sl a)).length:=by have:=of_decide_eq_false hb;omega
     obtain⟨x,hx⟩:∃x,(opt dd (val sl a))[i]?=some x:=⟨_,List.getElem?_eq_getElem hb⟩
     have hxg:x∈T.gs:=h.tab.ok.opts _ hva dd x (List.mem_of_getElem? hx);have e:aG sl (.option d a side i)=(sl.set d x,says 0):=by unfold aG;dsimp only;rw[if_neg na2,ed.2,hx];exact ie h hxg
     dsimp only[cO];refine Gz (.ixL yv yv (aV.of hrow) (oi rfl (by rw[List.getElem?_map,hx];rfl))) (qY (g:=x) tx h1 yv yv hd (an.1 T _ ((Fr.same s1).trans Fr.set) ?_ (by rw[e])));rw[e];exact h1.put hxg
   ·refine an.2 c.oP (-1) T H1 DA (.same s1) h1 ?_;unfold aG;dsimp only;rw[if_pos (.inr (.inr (by omega)))]
  ·refine an.2 c.oP (-1) T H1 DA (.same s1) (h.same s1) ?_;unfold aG;dsimp only;rw[if_pos ((qS hk).elim .inl fun h=>.inr (.inl h))]
def Gk(c:Cl):Sp:=fun vs H Q E=>∃(S dx fl:Addr)(T:Tb)(sl:List ae)(d:Nat)(ll rl:Addr)(l r:List Nat),vs=[.ref S,iN d,.ref ll,.ref rl]/\H ll=some (.lst (l.map iN))/\H rl=some (.lst (r.map iN))/\bM c H T sl S dx fl/\i9 T sl/\DC c S dx fl T H sl (.make d l r) Q E
theorem xC {f:Addr} {fd:FuncData} (F:dB K "put_made" "Slots.put_made" fG f fd) (tx:dc K mg c) (gC:gX P w K mg base 1 "check_slots" ["numbers"] (dt c)) (gR:gX P w K mg base 2 "check_row" ["row"] (EB c)) (mF:iV P w K mg base 5 c.T "form_of" ["self","lefts","rights"] (ku c)) :bj P w K mg base (cH P w) 6 f fd ["self","d","left_slots","right_slots"] (Gk c):=by
 refine F.okX jj (fun vs H Q E h=>?_) (fun cdv A outer s H vs Q E hr L h=>?_)
 ·obtain⟨S,dx,fl,T,sl,d,ll,rl,l,r,rfl,_⟩:=h;rfl
 ·obtain⟨S,dx,fl,T,sl,d,ll,rl,l,r,rfl,hll,hrl,h,ti,an⟩:=h;have nd:=jj.nd;have hr1:=hr.mono (show 1<=5 by decide);have hr2:=hr.mono (show 2<=5 by decide);refine⟨_,af (aR (bS gC hr1 L.passes (aa (bb (aa (pv 1) aj)) aj))) (af (aR (bS gR hr2 L.passes (aa (pv 2) aj))) (af (aR (bS gR hr2 L.passes (aa (pv 3) aj))) (af (cy (i:=4) (own:=[("slot",6)]) L.calm nd rfl rfl (dr rfl rfl rfl rfl) (oK K (pv 2)) (bD rfl) (fun _ _ _ _ _=>jc 6 nd) (fun _ _ _ _ _=>c_) (fun _ _ _ _ _=>ba K (fk K (pv 0)) (pv 6) (fun _ _=>rfl))) (af (cy (i:=5) (own:=[("slot",6)]) L.calm nd rfl rfl (dr rfl rfl rfl rfl) (oK K (pv 3)) (bD rfl) (fun _ _ _ _ _=>jc 6 nd) (fun _ _ _ _ _=>c_) (fun _ _ _ _ _=>ba K (fk K (pv 0)) (pv 6) (fun _ _=>rfl))) (ak (kH (cf mF tx.clT hr L.passes (fk K (pv 0)) (aa (pv 4) (aa (pv 5) aj))) (lC (fk K (pv 0)) (pv 1) de))))))),?_⟩;have nope:∀{H':Hp},aB H H'->(isSlot d=false\/Games.ROW<l.length\/Games.ROW<r.length\/((l++r).all isSlot)=false)->E (.ref c.oP) none H':=fun s' hc=>an.2 c.oP (-1) T _ DA (.same s') (h.same s') (by unfold aG;dsimp only;rw[if_pos hc])
  have bad:∀{ns:List Nat},(∀x∈ns,x∈l++r)->(¬∀n∈ns,n<16)->((l++r).all isSlot)=false:=fun hs hn=>by
   cases e:(l++r).all isSlot with
   |false=>rfl
   |true=>exact absurd (fun n hn=>of_decide_eq_true (List.all_eq_true.mp e n (hs n hn))) hn
  refine sq (cM (ns:=[d]) (.one yv) (by show 1<=sizeLine;decide) (fun hk H1 s1=>?_) (fun hk H1 s1=>nope s1 (.inl (df fun h=>hk (by simpa using h)))));have hd:d<16:=hk d (by simp);dsimp only;refine sq (kK (.one yv) ⟨ll,l,rfl,s1 _ _ hll,fun lz lk=>?_,fun hn=>?_⟩)
  ·dsimp only;refine sq (kK (.one yv) ⟨rl,r,rfl,s1 _ _ hrl,fun rz rk=>?_,fun hn=>?_⟩)
   ·have h1:=h.same s1;have elem:∀{ns:List Nat} {H':Hp} {σ:St},(∀n∈ns,n<16)->∀n∈ns,aB H1 H'->aD (aZ 0) σ H' (.ref S)->aD (aZ 6) σ H' (iN n)->BM (fB (kh K) (dO K (aZ 0) "forms") (aZ 6)) σ H' (T.at (val sl n)):=fun hns n hn s y0 y6=>(i_ tx (h1.same s) y0 (hns n hn) y6).s;dsimp only;refine sq (kd (xs:=l) (f:=iN) (e:=fun n=>T.at (val sl n)) (p:=fun _=>true) yv (aV.of (s1 _ _ hll)) (Nat.le_trans lz (by decide)) (fun y hy H' s=>n_.yes) (fun y hy _ H' s=>elem lk y hy s yv yv) (fun l1 H2 hl1 s2 e2=>?_));rw[bH]at e2;dsimp only;refine sq (kd (xs:=r) (f:=iN) (e:=fun n=>T.at (val sl n)) (p:=fun _=>true) yv (aV.of (s2 _ _ (s1 _ _ hrl))) (Nat.le_trans rz (by decide)) (fun y hy H' s=>n_.yes) (fun y hy _ H' s=>elem rk y hy (s2.trans s) yv yv) (fun l2 H3 hl2 s3 e3=>?_));rw[bH]at e3;have s13:=(s1.trans s2).trans s3;have h3:=h.same s13
    have hc:¬(isSlot d=false\/Games.ROW<l.length\/Games.ROW<r.length\/((l++r).all isSlot)=false):=by
     rintro(h|h|h|h)
     ·rw[bG hd]at h;cases h
     ·have:Games.ROW=32:=rfl;omega
     ·have:Games.ROW=32:=rfl;omega
     ·have:(l++r).all isSlot=true:=List.all_eq_true.mpr fun n hn=>bG ((List.mem_append.mp hn).elim (lk n) (rk n));rw[this]at h;cases h
    have inL:∀{ns:List Nat},(∀n∈ns,n<16)->∀x∈ns.map (val sl),x∈T.gs:=fun hns x hx=>by obtain⟨n,hn,rfl⟩:=List.mem_map.mp hx;exact h.mem _ (h.val (hns n hn)).1
    dsimp only;refine lF (dn tx h3 yv) h3.tab.tab rfl (.cons yv (.one yv)) ⟨T,l1,l2,l.map (val sl),r.map (val sl),rfl,h3.tab,by rw[List.map_map];exact s3 _ _ e2,by rw[List.map_map];exact e3,inL lk,inL rk,?_⟩;refine k6 (N:=fun x=>x=aq (.mk (l.map (val sl)) (r.map (val sl)))) tx h ti an s13 hd rfl (fun _=>yv) (fun _=>yv) (fun T' H' h' hg=>?_) fun T' H' st f=>?_
    ·unfold aG;dsimp only;rw[if_neg hc];exact ie h' hg
    ·unfold aG;dsimp only;rw[if_neg hc];exact jV h.most ti st f fun x hx=>by rw[hx];exact .refl
   ·refine nope s1 ?_;by_cases c1:r.length<=32
    ·exact .inr (.inr (.inr (bad (ns:=r) (fun x hx=>List.mem_append.mpr (.inr hx)) fun h=>hn ⟨c1,h⟩)))
    ·exact .inr (.inr (.inl (by show 32<_;omega)))
  ·refine nope s1 ?_;by_cases c1:l.length<=32
   ·exact .inr (.inr (.inr (bad (ns:=l) (fun x hx=>List.mem_append.mpr (.inl hx)) fun h=>hn ⟨c1,h⟩)))
   ·exact .inr (.inl (by show 32<_;omega))
end
theorem oJ{l:List ae}:∀x∈l.flatMap ao,∀d,∀y∈opt d x,y∈l.flatMap ao:=by intro x hx d y hy;obtain⟨g,hg,hxg⟩:=List.mem_flatMap.mp hx;exact List.mem_flatMap.mpr ⟨g,hg,cB x hxg d y hy⟩
section
variable{c:Cl}{H H':Hp}{T T':Tb}{sl:List ae}{S dx fl:Addr}
theorem bM.kept{l:List ae}(h:bM c H T sl S dx fl)(k:Dk c.P c.T (l.flatMap ao) T H T' H')(hl:∀x∈sl,x∈l):bM c H' T' sl S dx fl:=by
 have ea:T'.at=T.at:=by funext x;unfold Tb.at;rw[k.pa]
 have nT:∀{b:Addr}{o:HO},H b=some o->¬cx T b->¬cx T' b:=fun e n q=>(k.all _ q).elim n fun h=>by rw[h]at e;cases e
 refine⟨k.tab,by rw[k.tb];exact k.kp _ _ h.obj fun q=>h.nS (.inl q),by rw[ea];exact k.kp _ _ h.lst fun q=>h.nF (.inl q),fun x hx=>?_,h.len,k.most.trans h.most,nT h.obj h.nS,nT h.lst h.nF⟩;rw[k.gs,dk];exact⟨h.mem x hx,List.mem_flatMap.mpr ⟨x,hl x hx,aP.mpr .refl⟩⟩
theorem xP{l:List ae}(k:Dk c.P c.T (l.flatMap ao) T H T' H'){x:ae}(hx:x∈T'.gs):∃y∈l,az x y:=by rw[k.gs,dk]at hx;obtain⟨y,hy,h⟩:=List.mem_flatMap.mp hx.2;exact⟨y,hy,aP.mp h⟩
theorem zP{l:List ae}(k:Dk c.P c.T (l.flatMap ao) T H T' H'){x y:ae}(hx:x∈T.gs)(hy:y∈l)(hp:az x y):x∈T'.gs:=by rw[k.gs,dk];exact⟨hx,List.mem_flatMap.mpr ⟨y,hy,aP.mpr hp⟩⟩
end
theorem By{C:Addr}{m:Str}{sp:Sp}{E:XK}{te ta:TE}{σ:St}{H:Hp}{D:bN}{a dx:Addr}{fs:List (Str×V)}(ha:aD ta σ H (.ref a))(e:H a=some (.ins C dx fs))(l:fs.lookup m=none)(h:te σ H fun v H1=>sp [.ref a,v] H1 (fun _ H'=>D.nx σ H') E):ka (fx C m sp [] E ta (a_ te ck)) D σ H:=ha _ ⟨a,dx,fs,rfl,e,l,h⟩
theorem Gy{sp:Sp}{E:XK}{te:TE}{σ:St}{H:Hp}{Q:VK}(h:te σ H fun v H1=>sp [v] H1 Q E):fY sp [] E (a_ te ck) σ H Q:=h
theorem mY.catL{A B:TE}{σ:St}{H:Hp}{xs ys:List V}(hA:mY A σ H xs)(hB:∀H',aB H H'->mY B σ H' ys)(z:xs.length+ys.length<=sizeLine):mY (fB t_ A B) σ H (xs++ys):=fun Q k=>hA _ fun p1 H1 s1 e1=>hB H1 s1 _ fun p2 H2 s2 e2=>⟨p1,p2,xs,ys,rfl,rfl,s2 _ _ e1,e2,z,fun r hr=>k r _ (iZ (s1.trans s2) hr) ah⟩
def zH(c:Cl):Sp:=fun vs H Q _=>∃(S dx fl:Addr)(T:Tb)(sl:List ae),vs=[.ref S]/\bM c H T sl S dx fl/\∀T' H',Fr fl T H T' H'->bM c H' T' sl S dx fl->i9 T' sl->Q .non H'
section
variable{P:Program}{w:World}{K:W.Frag}{mg:Str->Option Value}{base:Heap}{c:Cl}
theorem xV{H:Hp}{T:Tb}{sl l:List ae}(ok:gm T.gs T.bit)(hl:∀x∈l,x∈T.gs):∀x∈l.flatMap ao,x∈T.gs:=fun x hx=>by obtain⟨y,hy,h⟩:=List.mem_flatMap.mp hx;exact ok.part (hl y hy) (aP.mp h)
theorem D8 {f:Addr} {fd:FuncData} (F:dB K "tidy" "Slots.tidy" j0 f fd) (tx:dc K mg c) (gI:gX P w K mg base 1 "inside_of" ["parts"] (oE K c)) (mK:iV P w K mg base 2 c.T "keep_only" ["self","bits"] (wC c)) :bj P w K mg base (cH P w) 3 f fd ["self"] (zH c):=by
 refine F.ok0 vW (fun vs H Q E h=>?_) (fun cdv A outer s H vs Q E hr h=>?_)
 ·obtain⟨S,dx,fl,T,sl,rfl,_⟩:=h;rfl
 ·obtain⟨S,dx,fl,T,sl,rfl,h,q⟩:=h;refine⟨_,ak (aR (cf mK tx.clT hr bq (fk K (pv 0)) (aa (bS gI (hr.mono (show 1<=2 by decide)) bq (aa (fk K (pv 0)) aj)) aj))),?_⟩;refine dy (dn tx h yv) h.tab.tab rfl (.one (.call (.one (rm tx h yv)) fun Q r=>⟨fl,T,_,sl,rfl,h.tab,h.mem,aV.of h.lst,r⟩)) ⟨T,sl.flatMap ao,rfl,h.tab,xV (H:=H) (sl:=sl) h.tab.ok h.mem,oJ,fun T' H' k=>?_⟩;exact q T' H' (Fr.kept k) (h.kept k fun _ h=>h) fun x hx=>xP k hx
def z9(c:Cl):Sp:=fun vs H Q E=>∃(S dx fl:Addr)(T:Tb)(sl:List ae)(d a:Nat)(n:Int),vs=[.ref S,T.at (val sl a),.int n]/\d<16/\a<16/\n.natAbs<=16/\bM c H T sl S dx fl/\i9 T sl/\(∀T' H' x,Fr fl T H T' H'->bM c H' T' sl S dx fl->x∈T'.gs->aG sl (.times d a n)=cQ sl d x->Q (T'.at x) H')/\∀T' H',Fr fl T H T' H'->bM c H' T' sl S dx fl->aG sl (.times d a n)=(sl,says (-5))->E (.ref c.nR) none H'
theorem Cb{sl:List ae}{d a:Nat}{n:Int}(hd:d<16)(ha:a<16)(hn:n.natAbs<=16):aG sl (.times d a n)=if n=0 then cQ sl d aM else if n.natAbs=1 then cQ sl d (if n<0 then aq (bo (val sl a))else val sl a)else match jo (n.natAbs-1) sl (if n<0 then aq (bo (val sl a))else val sl a) (if n<0 then aq (bo (val sl a))else val sl a)with
   |none=>(sl,says (-5))
   |some x=>cQ sl d x:=by
 have e1:¬(isSlot d=false\/isSlot a=false):=by rw[bG hd,bG ha];simp
 have e2:¬(n < -Games.TIMES\/Games.TIMES<n):=by have:Games.TIMES=16:=rfl;rw[this];omega
 conv=>lhs;unfold aG
 dsimp only;rw[if_neg e1,if_neg e2]<;>by_cases c1:n=0<;>first|(rw[if_pos c1,if_pos c1];done)|(rw[if_neg c1,if_neg c1];by_cases c3:n<0<;>simp only[c3,if_true,if_false]<;>by_cases c2:n.natAbs=1<;>first|(rw[if_pos c2,if_pos c2];done)|(rw[if_neg c2,if_neg c2];rfl))
set_option maxHeartbeats 8000000 in
theorem tZ {f:Addr} {fd:FuncData} (F:dB K "times_form" "Slots.times_form" eh f fd) (tx:dc K mg c) (gZ:gX P w K mg base 6 "zero_form" ["table"] (qe c)) (gM:gX P w K mg base 6 "minus_form" ["table","game"] (vF c)) (gS:gX P w K mg base 6 "sum_form" ["table","a","b"] (zU c)) (gI:gX P w K mg base 1 "inside_of" ["parts"] (oE K c)) (mK:iV P w K mg base 2 c.T "keep_only" ["self","bits"] (wC c)):bj P w K mg base (cH P w) 7 f fd ["self","game","n"] (z9 c):=by
 refine F.okX gY (fun vs H Q E h=>?_) (fun cdv A outer s H vs Q E hr L h=>?_)
 ·obtain⟨S,dx,fl,T,sl,d,a,n,rfl,_⟩:=h;rfl
 ·obtain⟨S,dx,fl,T,sl,d,a,n,rfl,hd,ha,hn,h,ti,q1,q2⟩:=h;have nd:=gY.nd;have hr1:=hr.mono (show 1<=6 by decide);have hr2:=hr.mono (show 2<=6 by decide);have as:=Cb (sl:=sl) hd ha hn;refine⟨_,af (bC (aK d5 (pv 2) aA (aX _)) (ak (aN (bS gZ hr L.passes (aa (fk K (pv 0)) aj)))) a8) (af (bC (aK uw (pv 2) aA (aX _)) (ak (du 1 nd (bS gM hr L.passes (aa (fk K (pv 0)) (aa (pv 1) aj))))) a8) (af (du 3 nd (pv 1)) (af (cg L.pass L.calm (gV (by rfl) tx.range (aa (aO qd (aJ oG (by rfl) tx.abs mv (aa (pv 2) aj)) aA) aj)) (jc 4 nd) (af (aR (cf mK tx.clT hr2 bq (fk K (pv 0)) (aa (bS gI hr1 bq (aa (aO i3 (fk K (pv 0)) (bb (aa (pv 3) (aa (pv 1) aj)))) aj)) aj))) (ak (du 3 nd (bS gS hr L.passes (aa (fk K (pv 0)) (aa (pv 3) (aa (pv 1) aj)))))))) (ak (aN (pv 3)))))),?_⟩;refine sq (DD (Yt.b (aD.eq yv .c)) (fun hb=>?_) (fun hb=>?_))
  ·have hb:=of_decide_eq_true hb;rw[if_pos hb]at as;refine wu (.one (dn tx h yv)) ⟨T,rfl,h.tab,fun T' H' st hm=>q1 T' H' aM (Fr.of st) (h.stp st) hm as,fun T' H' st f=>q2 T' H' (Fr.of st) (h.stp st) (as.trans (jV h.most ti st f fun x hx=>by rw[hx];exact .refl))⟩
  have hb:=of_decide_eq_false hb;rw[if_neg hb]at as
  have go:∀(g:ae)(T1:Tb)(H1:Hp),g=(if n<0 then aq (bo (val sl a))else val sl a)->Fr fl T H T1 H1->bM c H1 T1 sl S dx fl->g∈T1.gs->ve (fV (aZ 1) (bw 3)) (ve (vb (uB (a_ (fB (n9 fun i j=>.int (i-j)) (Ab (fun xs H Q=>∃i,xs=[.int i]/\Q (.int (if i<0 then -i else i)) H) (a_ (aZ 2) ck)) (tC (.int 1))) ck)) (bw 4) (ve (ka (fx c.T "keep_only" (wC c) [] E0 (dO K (aZ 0) "table") (a_ (fY (oE K c) [] E0 (a_ (fB t_ (dO K (aZ 0) "forms") (nP (a_ (aZ 3) (a_ (aZ 1) ck)))) ck)) ck))) (fV (fY (zU c) [] E (a_ (dO K (aZ 0) "table") (a_ (aZ 3) (a_ (aZ 1) ck)))) (bw 3)))) (ke (aZ 3))) { nx:=fun _ H'=>Q .non H',rt:=Q } [some (.ref S),some (T1.at g),some (.int n),none,none] H1:=by
   intro g T1 H1 eg fr1 h1 hg1;rw[<-eg]at as;have n1:1<=n.natAbs:=by omega
   refine sq (fH yv ?_);dsimp only
   have yK:aD (fB (n9 fun i j=>.int (i-j)) (Ab (fun xs H Q=>∃i,xs=[.int i]/\Q (.int (if i<0 then -i else i)) H) (a_ (aZ 2) ck)) (tC (.int 1))) [some (.ref S),some (T1.at g),some (.int n),some (T1.at g),none] H1 (iN (n.natAbs-1)):=by
    have:=aD.i0 (g:=fun i j=>.int (i-j)) (aD.abs (yv (σ:=[some (.ref S),some (T1.at g),some (.int n),some (T1.at g),none]) (H:=H1) (n:=2) (v:=.int n))) (aD.c (v:=.int 1));have e9:((n.natAbs-1:Nat):Int)=((n.natAbs:Nat):Int)-1:=by omega
    rw[show iN (n.natAbs-1)=V.int (((n.natAbs:Nat):Int)-1)from congrArg V.int e9];exact this
   refine sq (DQ (.one yK) (fun i σ H2=>∃T2 x v4,σ=[some (.ref S),some (T2.at g),some (.int n),some (T2.at x),v4]/\Fr fl T H T2 H2/\bM c H2 T2 sl S dx fl/\g∈T2.gs/\x∈T2.gs/\jo (n.natAbs-1) sl g g=jo (n.natAbs-1-i) sl g x) ⟨T1,g,none,rfl,fr1,h1,hg1,hg1,rfl⟩ ?_ ?_)
   ·rintro i σ H2 hi ⟨T2,x,v4,rfl,fr2,h2,hg2,hx2,hadd⟩;rw[Int.toNat_natCast]at hi
    have hin:∀y∈sl++[x,g],y∈T2.gs:=by
     intro y hy;rcases List.mem_append.mp hy with hy|hy
     ·exact h2.mem y hy
     ·simp only[List.mem_cons,List.not_mem_nil,or_false]at hy;rcases hy with rfl|rfl
      ·exact hx2
      ·exact hg2
    have el:sl.map T2.at++[T2.at x,T2.at g]=(sl++[x,g]).map T2.at:=by rw[List.map_append];rfl
    refine sq (By (dn tx h2 yv) h2.tab.tab rfl (Gy (mY.catL (.y (rm tx h2 yv) h2.lst) (fun H' s=>.new (.cons yv (.one yv)) (by show 2<=sizeLine;decide)) (by rw[List.length_map,h2.len];show 16+2<=sizeLine;decide) _ fun l H3 s3 e3=>?_)));have h3:=h2.same s3;refine⟨l,T2,_,sl++[x,g],rfl,h3.tab,hin,aV.of (by rw[<-el];exact e3),?_⟩;refine⟨T2,(sl++[x,g]).flatMap ao,rfl,h3.tab,xV (H:=H) (sl:=sl) h3.tab.ok hin,oJ,fun T4 H4 k=>?_⟩;have h4:=h3.kept k fun y hy=>List.mem_append.mpr (.inl hy);have fr4:=(fr2.trans (Fr.same s3)).trans (Fr.kept k);have hx4:=zP k hx2 (y:=x) (by simp) .refl;have hg4:=zP k hg2 (y:=g) (by simp) .refl;have ea:T4.at=T2.at:=by funext y;unfold Tb.at;rw[k.pa]
    dsimp only;rw[<-ea];refine d9 (.cons (dn tx h4 yv) (.cons yv (.one yv))) ⟨T4,x,g,rfl,h4.tab,hx4,hg4,fun T5 H5 st hall=>?_,fun T5 H5 st f=>?_⟩
    ·have h5:=h4.stp st;refine⟨T5,aq (bt x g),_,by rw[st.ext.at hg4];rfl,fr4.trans (Fr.of st),h5,st.ext.sub g hg4,hall _ _ .refl .refl,?_⟩;have e:n.natAbs-1-i=(n.natAbs-1-(i+1))+1:=by omega
     rw[hadd,e,jo,if_pos (AH (H:=H) (T:=T) (N:=fun _=>True) h5 hall)]
    ·have no:¬gE sl x g:=by
      obtain⟨z,hz,hzn,_,_,hc⟩:=f;rw[st.ext.most,h4.most]at hc;refine o_ st.tab.ok.nodup hzn (fun p hp=>?_) ⟨z,.inl hz,.refl⟩ hc;rcases st.ext.new p hp with hp|hp
      ·obtain⟨y,hy,hpy⟩:=xP k hp;rcases List.mem_append.mp hy with hy|hy
       ·exact⟨y,.inr hy,hpy⟩
       ·simp only[List.mem_cons,List.not_mem_nil,or_false]at hy;rcases hy with rfl|rfl
        ·exact⟨p,.inl (uq (h4.tab.ok.least _ hx4) hpy),.refl⟩
        ·exact⟨p,.inl (rJ (h4.tab.ok.least _ hg4) hpy),.refl⟩
      ·exact⟨p,.inl hp,.refl⟩
     have e:n.natAbs-1-i=(n.natAbs-1-(i+1))+1:=by omega
     rw[if_neg (by omega),hadd,e,jo,if_neg no]at as;exact q2 T5 H5 (fr4.trans (Fr.of st)) (h4.stp st) as
   ·rintro σ H2 ⟨T2,x,v4,rfl,fr2,h2,hg2,hx2,hadd⟩;rw[Int.toNat_natCast,Nat.sub_self,jo]at hadd;dsimp only;refine iG yv (q1 T2 H2 x fr2 h2 hx2 ?_);rw[as];by_cases c1:n.natAbs=1
    ·rw[c1]at hadd;rw[if_pos c1];have hadd:some g=some x:=hadd;cases hadd;rfl
    ·rw[if_neg c1,hadd]
  dsimp only[cO];refine sq (DD (Yt.b (aD.i0 yv .c)) (fun hneg=>?_) (fun hneg=>?_))
  ·have hneg:=of_decide_eq_true hneg;have hva:=h.mem _ (h.val ha).1;refine d9 (.cons (dn tx h yv) (.one yv)) ⟨T,val sl a,rfl,h.tab,hva,fun T1 H1 st hm=>?_,fun T1 H1 st f=>?_⟩
   ·exact go _ T1 H1 (by rw[if_pos hneg]) (Fr.of st) (h.stp st) hm
   ·refine q2 T1 H1 (Fr.of st) (h.stp st) ?_;rw[as];rw[if_pos hneg];by_cases c1:n.natAbs=1
    ·rw[if_pos c1];exact jV h.most ti st f fun x hx=>pV (h.tab.ok.least _ hva) hx
    ·rw[if_neg c1];obtain⟨m,em⟩:∃m,n.natAbs-1=m+1:=⟨n.natAbs-2,by omega⟩
     have lf:=cX (bo (val sl a));have no:¬gE sl (aq (bo (val sl a))) (aq (bo (val sl a))):=v9 (Q:=fun x=>gL (aq (bo (val sl a))) (aq (bo (val sl a))) x\/x∈sl) h.most ti st f (fun x hx=>⟨x,.inl (uq lf (pV (h.tab.ok.least _ hva) hx)),.refl⟩) fun x hx=>.inr hx;rw[em,jo,if_neg no]
  ·have hneg:=of_decide_eq_false hneg;exact go _ T H (by rw[if_neg hneg]) Fr.refl h (h.mem _ (h.val ha).1)
end
section
variable{P:Program}{w:World}{K:W.Frag}{mg:Str->Option Value}{base:Heap}{c:Cl}
def Gd(c:Cl):Sp:=fun vs H Q E=>∃(S dx fl:Addr)(T:Tb)(sl:List ae)(d a:Nat)(n:Int),vs=[.ref S,iN d,iN a,.int n]/\bM c H T sl S dx fl/\i9 T sl/\DC c S dx fl T H sl (.times d a n) Q E
theorem vL {f:Addr} {fd:FuncData} (F:dB K "put_times" "Slots.put_times" fu f fd) (tx:dc K mg c) (gC:gX P w K mg base 1 "check_slots" ["numbers"] (dt c)) (mT:iV P w K mg base 7 c.S "times_form" ["self","game","n"] (z9 c)) :bj P w K mg base (cH P w) 8 f fd ["self","d","a","n"] (Gd c):=by
 refine F.okX oA (fun vs H Q E h=>?_) (fun cdv A outer s H vs Q E hr L h=>?_)
 ·obtain⟨S,dx,fl,T,sl,d,a,n,rfl,_⟩:=h;rfl
 ·obtain⟨S,dx,fl,T,sl,d,a,n,rfl,h,ti,an⟩:=h;refine⟨_,af (aR (bS gC (hr.mono (show 1<=7 by decide)) L.passes (aa (bb (aa (pv 1) (aa (pv 2) aj))) aj))) (af (bC (aK ow (aJ oG (by rfl) tx.abs mv (aa (pv 3) aj)) (aL tx.MOST_TIMES) (aX _)) (ak (cN L (by rfl) tx.xoR)) a8) (ak (kH (cf mT tx.clS hr L.passes (pv 0) (aa (ba K (fk K (pv 0)) (pv 2) (fun _ _=>rfl)) (aa (pv 3) aj))) (lC (fk K (pv 0)) (pv 1) de)))),?_⟩;refine sq (cM (ns:=[d,a]) (.cons yv (.one yv)) (by show 2<=sizeLine;decide) (fun hk H1 s1=>?_) (fun hk H1 s1=>?_))
  ·have hd:d<16:=hk d (by simp);have ha:a<16:=hk a (by simp);have h1:=h.same s1;dsimp only;refine sq (iD (b':=decide (16<n.natAbs)) (Yt.b (aD.i0 (.abs yv) .c)) (decide_eq_decide.mpr ⟨fun h=>by omega,fun h=>by omega⟩) (fun hb=>?_) (fun hb=>?_))
   ·refine an.2 c.oR (-2) T H1 HB (.same s1) h1 ?_;have hb:=of_decide_eq_true hb;unfold aG;dsimp only;rw[if_neg (o4 hk),if_pos];have:Games.TIMES=16:=rfl;rw[this];omega
   ·have hb:n.natAbs<=16:=by have:=of_decide_eq_false hb;omega
    dsimp only[cO];refine lF yv h1.obj rfl (.cons (i_ tx h1 yv ha yv) (.one yv)) ⟨S,dx,fl,T,sl,d,a,n,rfl,hd,ha,hb,h1,ti,fun T' H' x fr h' hx e=>?_,fun T' H' fr h' e=>?_⟩
    ·have fr':=(Fr.same s1).trans fr;have e2:=e.trans (ie h' hx);refine qY tx h' yv yv hd (an.1 T' _ (fr'.trans Fr.set) ?_ (by rw[e2]));rw[e2];exact h'.put hx
    ·exact an.2 c.nR (-5) T' H' Hd ((Fr.same s1).trans fr) h' e
  ·refine an.2 c.oP (-1) T H1 DA (.same s1) (h.same s1) ?_;unfold aG;dsimp only;rw[if_pos (qS hk)]
def EA(c:Cl):Sp:=fun vs H Q E=>∃(S dx fl:Addr)(T:Tb)(sl:List ae)(a b:Nat),vs=[.ref S,iN a,iN b]/\bM c H T sl S dx fl/\(∀k H',aB H H'->aG sl (.order a b)=(sl,says k)->Q (.int k) H')/\∀H',aB H H'->aG sl (.order a b)=(sl,says (-1))->E (.ref c.oP) none H'
open Classical in
theorem tO {f:Addr} {fd:FuncData} (F:dB K "tell_order" "Slots.tell_order" eI f fd) (tx:dc K mg c) (gC:gX P w K mg base 1 "check_slots" ["numbers"] (dt c)) (gA:gX P w K mg base 1 "is_at_most" ["x","y"] (yr c)) :
  bj P w K mg base (cH P w) 2 f fd ["self","a","b"] (EA c):=by
 refine F.okX ij (fun vs H Q E h=>?_) (fun cdv A outer s H vs Q E hr L h=>?_)
 ·obtain⟨S,dx,fl,T,sl,a,b,rfl,_⟩:=h;rfl
 ·obtain⟨S,dx,fl,T,sl,a,b,rfl,h,q1,q2⟩:=h
  have nd:=ij.nd
  refine⟨_,af (aR (bS gC hr L.passes (aa (bb (aa (pv 1) (aa (pv 2) aj))) aj)))
   (af (du 3 nd (ba K (fk K (pv 0)) (pv 1) (fun _ _=>rfl)))
   (af (du 4 nd (ba K (fk K (pv 0)) (pv 2) (fun _ _=>rfl)))
   (af (bC (aK d5 (fk K (pv 3)) (fk K (pv 4)) (aX _)) (ak (aN (aL tx.SAME))) a8)
   (af (bC (cY K (bS gA hr bq (aa (pv 4) (aa (pv 3) aj)))) (ak (aN (aL tx.ABOVE))) a8)
   (af (bC (cY K (bS gA hr bq (aa (pv 3) (aa (pv 4) aj)))) (ak (aN (aL tx.BELOW))) a8)
   (ak (aN (aL tx.NEITHER)))))))),?_⟩
  refine sq (cM (ns:=[a,b]) (.cons yv (.one yv)) (by show 2<=sizeLine;decide) (fun hk H1 s1=>?_) (fun hk H1 s1=>?_))
  ·have ha:a<16:=hk a (by simp)
   have hb:b<16:=hk b (by simp)
   have h1:=h.same s1
   have hva:=h.mem _ (h.val ha).1
   have hvb:=h.mem _ (h.val hb).1
   dsimp only
   refine sq (fH (i_ tx h1 yv ha yv) ?_)
   dsimp only
   refine sq (fH (i_ tx h1 yv hb yv) ?_)
   dsimp only
   have as:∀k,(if le (val sl a) (val sl b)then(if le (val sl b) (val sl a)then(0:Int)else 2)else if le (val sl b) (val sl a)then 1 else 3)=k->aG sl (.order a b)=(sl,says k):=by
    intro k hk'
    unfold aG;dsimp only
    rw[if_neg (o4 hk),hk']
   refine sq (iD (b':=bB (val sl a=val sl b)) (Yt.b (aD.eq (b_ tx h1.tab hva yv) (b_ tx h1.tab hvb yv))) ?_ (fun hc=>?_) (fun hc=>?_))
   ·rw[r_ (Classical.propDecidable _)]
    refine decide_eq_decide.mpr ⟨fun e=>h.tab.ok.inj _ hva _ hvb ((Nat.pow_right_inj (by decide)).mp (Int.ofNat_inj.mp e)),fun e=>by rw[e]⟩
   ·have e:=bu.mp hc
    refine iG .c (q1 0 H1 s1 (as 0 ?_))
    rw[e,if_pos (le_refl _),if_pos (le_refl _)]
   have ne:val sl a≠val sl b:=fun e=>by rw[i5 e]at hc;cases hc
   dsimp only[cO]
   refine sq (DD (b:=E_ (val sl b) (val sl a)) (Yt.bl (.call (.cons yv (.one yv)) fun Q r=>⟨T,val sl b,val sl a,rfl,h1.tab,hvb,hva,r⟩)) (fun hc=>?_) (fun hc=>?_))
   ·have hle:=bu.mp hc
    refine iG .c (q1 1 H1 s1 (as 1 ?_))
    rw[if_neg fun h'=>ne (h.tab.ok.anti hva hvb h' hle),if_pos hle]
   have nle:¬le (val sl b) (val sl a):=fun h'=>by unfold E_ at hc;rw[i5 h']at hc;cases hc
   dsimp only[cO]
   refine sq (DD (b:=E_ (val sl a) (val sl b)) (Yt.bl (.call (.cons yv (.one yv)) fun Q r=>⟨T,val sl a,val sl b,rfl,h1.tab,hva,hvb,r⟩)) (fun hc=>?_) (fun hc=>?_))
   ·refine iG .c (q1 2 H1 s1 (as 2 ?_))
    rw[if_pos (bu.mp hc),if_neg nle]
   have nle2:¬le (val sl a) (val sl b):=fun h'=>by unfold E_ at hc;rw[i5 h']at hc;cases hc
   dsimp only[cO]
   refine iG .c (q1 3 H1 s1 (as 3 ?_))
   rw[if_neg nle2,if_neg nle]
  ·refine q2 H1 s1 ?_
   unfold aG;dsimp only
   rw[if_pos (qS hk)]
def EC(c:Cl):Sp:=fun vs H Q E=>∃(S dx fl:Addr)(T:Tb)(sl:List ae)(a:Nat),vs=[.ref S,iN a]/\bM c H T sl S dx fl/\(∀p H',H p=none->aB H H'->a<16->H' p=some (.lst (bI (cD (val sl a))))->Q (.ref p) H')/\∀H',aB H H'->¬a<16->E (.ref c.oP) none H'
theorem t9 {f:Addr} {fd:FuncData} (F:dB K "tell_bytes" "Slots.tell_bytes" eJ f fd) (tx:dc K mg c) (gC:gX P w K mg base 1 "check_slots" ["numbers"] (dt c)) (gB:gX P w K mg base 2 "bytes_of" ["form"] (vn c)) :bj P w K mg base (cH P w) 3 f fd ["self","a"] (EC c):=by
 refine F.okX nQ (fun vs H Q E h=>?_) (fun cdv A outer s H vs Q E hr L h=>?_)
 ·obtain⟨S,dx,fl,T,sl,a,rfl,_⟩:=h;rfl
 ·obtain⟨S,dx,fl,T,sl,a,rfl,h,q1,q2⟩:=h;refine⟨_,af (aR (bS gC (hr.mono (show 1<=2 by decide)) L.passes (aa (bb (aa (pv 1) aj)) aj))) (ak (aN (bS gB hr bq (aa (ba K (fk K (pv 0)) (pv 1) (fun _ _=>rfl)) aj)))),?_⟩;refine sq (cM (ns:=[a]) (.one yv) (by show 1<=sizeLine;decide) (fun hk H1 s1=>?_) (fun hk H1 s1=>q2 H1 s1 fun h=>hk (by simpa using h)));have ha:a<16:=hk a (by simp);have h1:=h.same s1;dsimp only;exact wu (.one (i_ tx h1 yv ha yv)) ⟨T,val sl a,rfl,h1.tab,h.mem _ (h.val ha).1,fun l H' hl s2 e=>q1 l H' (s1.free hl) (s1.trans s2) ha e⟩
def Gf(c:Cl):Sp:=fun vs H Q E=>∃(S dx fl:Addr)(T:Tb)(sl:List ae),vs=[.ref S]/\bM c H T sl S dx fl/\i9 T sl/\∀p H',H p=none->aB H H'->H' p=some (.lst [iN (fo sl).length,iN (optCount (fo sl))])->Q (.ref p) H'
theorem vm {f:Addr} {fd:FuncData} (F:dB K "tell_room" "Slots.tell_room" fe f fd) (tx:dc K mg c):bj P w K mg base (cH P w) 1 f fd ["self"] (Gf c):=by
 refine F.ok0 oB (fun vs H Q E h=>?_) (fun cdv A outer s H vs Q E hr h=>?_)
 ·obtain⟨S,dx,fl,T,sl,rfl,_⟩:=h;rfl
 ·obtain⟨S,dx,fl,T,sl,rfl,h,ti,q⟩:=h;refine⟨_,ak (aN (bb (aa (aJ (gH K) (by rfl) tx.len PySem.boot_len (aa (fk K (fk K (pv 0))) aj)) (aa (fk K (fk K (pv 0))) aj)))),?_⟩;have pm:T.gs.Perm (fo sl):=by have ip:=qC sl;refine jY h.tab.ok.nodup ip.1 fun x=>?_;rw[ip.2];exact⟨fun hx=>let⟨y,hy,hp⟩:=ti x hx;⟨y,hy,hp⟩,fun⟨y,hy,hp⟩=>h.tab.ok.part (h.mem y hy) hp⟩
  refine wb (.cons (.len (aD.one (d7 tx h.tab (dn tx h yv))) (aV.of h.tab.lst)) (.one (Cu tx h.tab (dn tx h yv)))) (by show 2<=sizeLine;decide) fun p hp=>?_;refine q p _ hp (aW hp) ?_;rw[ah,List.length_map,pm.length_eq,dg pm]
def Ez(c:Cl):Sp:=fun vs H Q E=>∃(S dx fl:Addr)(T:Tb)(sl:List ae)(a:Nat),vs=[.ref S,iN a]/\bM c H T sl S dx fl/\(∀p H',H p=none->aB H H'->a<16->H' p=some (.lst [iN (ao (val sl a)).length,iN (optCount (ao (val sl a))),iN (born (val sl a)),iN (val sl a).left.length,iN (val sl a).right.length])->Q (.ref p) H')/\∀H',aB H H'->¬a<16->E (.ref c.oP) none H'
theorem Fs{K:W.Frag}{tl:TE}{i:Nat}{D:bN}{σ:St}{H:Hp}(h:tl σ H fun v H1=>∃(a:Addr) (ns:List Int),[v]=[V.ref a]/\aV K H1 a (ns.map V.int)/\D.nx (σ.set i (some (.int ns.sum))) H1):fV (Ab (Fv K) (a_ tl ck)) (bw i) D σ H:=h
theorem tW {f:Addr} {fd:FuncData} (F:dB K "tell_shape" "Slots.tell_shape" ei f fd) (tx:dc K mg c) (gC:gX P w K mg base 1 "check_slots" ["numbers"] (dt c)) (mP:iV P w K mg base 1 c.T "parts_of" ["self","game"] (l9 c)) (mC:iV P w K mg base 1 c.P "option_count" ["self"] (oZ c)) :bj P w K mg base (cH P w) 2 f fd ["self","a"] (Ez c):=by
 refine F.okX h_ (fun vs H Q E h=>?_) (fun cdv A outer s H vs Q E hr L h=>?_)
 ·obtain⟨S,dx,fl,T,sl,a,rfl,_⟩:=h;rfl
 ·obtain⟨S,dx,fl,T,sl,a,rfl,h,q1,q2⟩:=h;have nd:=h_.nd;refine⟨_,af (aR (bS gC hr L.passes (aa (bb (aa (pv 1) aj)) aj))) (af (du 2 nd (ba K (fk K (pv 0)) (pv 1) (fun _ _=>rfl))) (af (du 3 nd (cf mP tx.clT hr bq (fk K (pv 0)) (aa (pv 2) aj))) (af (du 4 nd (aJ (B5 L.calm) (by rfl) tx.sum uC (aa (sO (own:=[("part",5)]) L.calm nd (oK K (pv 3)) (bD rfl) (fun _ _ _ _ _=>jc 5 nd) (fun _ _ _ _ _=>c_) (fun _ _ _ _ _=>i4 mC tx.clP hr bq (pv 5))) aj))) (ak (aN (bb (aa (aJ (gH K) (by rfl) tx.len PySem.boot_len (aa (pv 3) aj)) (aa (pv 4) (aa (fk K (pv 2)) (aa (aJ (gH K) (by rfl) tx.len PySem.boot_len (aa (cu K (fk K (pv 2)) (aL tx.LEFT) (fun _ _=>rfl)) aj)) (aa (aJ (gH K) (by rfl) tx.len PySem.boot_len (aa (cu K (fk K (pv 2)) (aL tx.RIGHT) (fun _ _=>rfl)) aj)) aj))))))))))),?_⟩;refine sq (cM (ns:=[a]) (.one yv) (by show 1<=sizeLine;decide) (fun hk H1 s1=>?_) (fun hk H1 s1=>q2 H1 s1 fun h=>hk (by simpa using h)));have ha:a<16:=hk a (by simp);have h1:=h.same s1;have hva:=h.mem _ (h.val ha).1;have pm:(T.partsIn (val sl a)).Perm (ao (val sl a)):=jY (h.tab.ok.nodup.filter _) (fy _).1 fun x=>by rw[b6 h.tab hva,aP]
  dsimp only;refine sq (fH (i_ tx h1 yv ha yv) ?_);dsimp only;refine sq (j1 (dn tx h1 yv) h1.tab.tab rfl (.one yv) ⟨T,val sl a,rfl,h1.tab,hva,fun l H2 hl s2 e2=>?_⟩);have h2:=h1.same s2;dsimp only;refine sq (Fs (jk (xs:=T.partsIn (val sl a)) (f:=T.at) (e:=fun x=>iN (optC x)) (p:=fun _=>true) yv (aV.of e2) (sC (List.length_filter_le _ _) (mq h.tab)) (fun y hy H' s=>n_.yes) (fun y hy _ H' s=>?_) (fun d H3 hd s3 e3=>?_)))
  ·have hyg:y∈T.gs:=(List.mem_filter.mp hy).1;have lk:=(h2.tab.same s).like hyg;exact(aD.meth yv lk.obj rfl .nil fun Q r=>⟨T,_,y,_,_,_,_,_,_,_,_,rfl,lk,r⟩).s
  have esum:((T.partsIn (val sl a)).filter fun _=>true).map (fun x=>iN (optC x))=((T.partsIn (val sl a)).map fun x=>((optC x:Nat):Int)).map V.int:=by rw[bH,List.map_map];rfl
  rw[esum]at e3;refine⟨d,_,rfl,aV.of e3,?_⟩;rw[wz,dg pm];have h3:=h2.same s3;dsimp only;refine wb (.cons (.len (aD.one yv) (aV.of (s3 _ _ e2))) (.cons yv (.cons (r0 tx h3.tab hva yv) (.cons (.len (aD.one (iQ (d:=false) tx h3.tab hva yv .c)) (aV.of (fg h3.tab hva))) (.one (.len (aD.one (iQ (d:=true) tx h3.tab hva yv .c)) (aV.of (fg h3.tab hva)))))))) (by show 5<=sizeLine;decide) fun p hp=>?_;have s13:=(s1.trans s2).trans s3;refine q1 p _ (s13.free hp) (iZ s13 hp) ha ?_;rw[ah,List.length_map,pm.length_eq,List.length_map,List.length_map];rfl
def qy(c:Cl):Sp:=fun vs H Q E=>∃(S dx:Addr),vs=[.ref S]/\H S=some (.ins c.S dx [])/\∀T fl H',bM c H' T (List.replicate 16 aM) S dx fl->i9 T (List.replicate 16 aM)->(∀b o,H b=some o->b≠S->H' b=some o)->(∀b,cx T b->H b=none)->H fl=none->Q .non H'
theorem DG{K:W.Frag}{C C':Addr}{sp:Sp}{E:XK}{t:TA}{ta:TE}{f:Str}{σ:St}{H:Hp}{D:bN}{vs:List V}(h:YA t σ H vs)(q:∀x dx,H x=none->H dx=none->dx≠x->sp (.ref x::(vs++[])) (aI (aI H dx (.own x)) x (.ins C dx [])) (fun v H2=>v=.non/\ta σ H2 fun x' H3=>∃a C dx fs,x'=.ref a/\H3 a=some (.ins C dx fs)/\qH K C/\bF K C f/\fs.length<1000/\D.nx σ (aI H3 a (.ins C dx (cG f (.ref x) fs)))) E):wG K ta (tw C sp [] E t) f D σ H:=h _ q
theorem Fh{K:W.Frag}{te ta tk:TE}{f:Str}{σ:St}{H:Hp}{D:bN}(h:te σ H fun v H1=>[v].length<=sizeLine/\∀p,H1 p=none->tk σ (aI H1 p (.lst [v])) fun y H2=>D5 (.ref p) y H2 fun w H3=>ta σ H3 fun x' H4=>∃a C dx fs,x'=.ref a/\H4 a=some (.ins C dx fs)/\qH K C/\bF K C f/\fs.length<1000/\D.nx σ (aI H4 a (.ins C dx (cG f w fs)))):wG K ta (fB D5 (nP (a_ te ck)) tk) f D σ H:=h
theorem tQ {f:Addr} {fd:FuncData} (F:dB K "__init__" "Slots.__init__" jW f fd) (tx:dc K mg c) (kT:EF P w K mg base 1 c.T "Table" ["self","most_options"] (lj c)) (gZ:gX P w K mg base 6 "zero_form" ["table"] (qe c)):bj P w K mg base (cH P w) 7 f fd ["self"] (qy c):=by
 refine F.ok0 vK (fun vs H Q E h=>?_) (fun cdv A outer s H vs Q E hr h=>?_)
 ·obtain⟨S,dx,rfl,_⟩:=h;rfl
 ·obtain⟨S,dx,rfl,hS,q⟩:=h;refine⟨_,af (cE (pv 0) (El kT (hr.mono (show 2<=6 by decide)) bq (aa (aL tx.MOST_OPTIONS) aj)) rfl) (ak (cE (pv 0) (aO FM (bb (aa (bS gZ hr bq (aa (fk K (pv 0)) aj)) aj)) (aL tx.SLOTS)) rfl)),?_⟩;refine sq (DG (C':=c.T) (vs:=[iN 1024]) (.one .c) fun x dx' hx hdx hne=>⟨x,dx',1024,rfl,ah,fun pl sdd H1 hpl hsd kp ex epl esd=>⟨rfl,?_⟩⟩);have s1:aB H H1:=aB.made hx hdx kp
  have fr:∀{y:Addr},aI (aI H dx' (.own x)) x (.ins c.T dx' []) y=none->H y=none:=fun{y}h=>by
   by_cases e:y=x
   ·rw[e,ah]at h;cases h
   ·rw[ai e]at h;by_cases e':y=dx'
    ·rw[e',ah]at h;cases h
    ·rwa [ai e']at h
  let T0:Tb:=⟨[],fun _=>0,fun _=>⟨0,0,0,0,0,0,0⟩,x,dx',pl,sdd,1024,[]⟩
  have t0:bP c.P c.T H1 T0:=by refine⟨⟨List.Pairwise.nil,(fun _ h=>nomatch h),(fun _ h=>nomatch h),(fun _ h=>nomatch h)⟩,ex,epl,esd,(fun _ h=>nomatch h),List.nodup_nil,(fun _ h=>nomatch h),(fun _ h=>nomatch h),Nat.zero_le _,Nat.zero_le _⟩
  have allF:∀y,cx T0 y->H y=none:=by
   rintro y ((h|h|h|⟨z,hz,_⟩)|⟨z,hz,_⟩)
   ·rw[h];exact hx
   ·rw[h];exact fr hpl
   ·rw[h];exact fr hsd
   ·cases hz
   ·cases hz
  have nS0:¬cx T0 S:=fun h=>by have:=allF S h;rw[hS]at this;cases this
  refine(yv:aD (aZ 0) _ H1 (.ref S)) _ ⟨S,c.S,dx,[],rfl,s1 _ _ hS,tx.clS,tx.table,by decide,?_⟩;let H2:Hp:=aI H1 S (.ins c.S dx [("table",.ref x)]);have t2:bP c.P c.T H2 T0:=t0.apart nS0 fun b o e n=>by show aI H1 S _ b=_;rw[ai n];exact e
  show wG K (aZ 0) (fB D5 (nP (a_ (fY (qe c) [] E0 (a_ (dO K (aZ 0) "table") ck)) ck)) (tC (.int 16))) "forms" _ _ H2;refine Fh (AG (.one (.fld yv ah tx.clS tx.table rfl)) ⟨T0,rfl,t2,fun T3 H3 st hm=>?_,fun T3 H3 st f=>?_⟩)
  ·refine⟨by show 1<=sizeLine;decide,fun p hp=>⟨p,16,[T3.at aM],rfl,rfl,ah,by decide,by decide,by show 1*16<=sizeLine;decide,fun fl hfl=>?_⟩⟩;have n2:H2 S=some (.ins c.S dx [("table",.ref x)]):=ah;obtain⟨o1,o2⟩:=st.own_all n2 nS0;have e1:aI H3 p (.lst [T3.at aM]) S=some (.ins c.S dx [("table",.ref x)]):=by rw[ai (au o1 hp)];exact o1
   have e2:aI (aI H3 p (.lst [T3.at aM])) fl (.lst (List.replicate (16:Int).toNat [T3.at aM]).flatten) S=some (.ins c.S dx [("table",.ref x)]):=by rw[ai (au e1 hfl)];exact e1
   refine(yv:aD (aZ 0) _ _ (.ref S)) _ ⟨S,c.S,dx,_,rfl,e2,tx.clS,tx.forms,by show 1<1000;decide,?_⟩;have hfl3:H3 fl=none:=(aW hp).free hfl;have hp2:H2 p=none:=st.live p hp;have hfl2:H2 fl=none:=st.live fl hfl3;have nSf:S≠fl:=au o1 hfl3
   have Hf:∀{b:Addr},H2 b=none->H b=none:=fun{b}h=>by
    by_cases e:b=S
    ·rw[e,n2]at h;cases h
    ·exact s1.free (by rw[show H2 b=H1 b from ai e]at h;exact h)
   have er:(List.replicate (16:Int).toNat [T3.at aM]).flatten=(List.replicate 16 aM).map T3.at:=by simp[List.map_replicate]
   have s3:aB H3 (aI (aI H3 p (.lst [T3.at aM])) fl (.lst (List.replicate (16:Int).toNat [T3.at aM]).flatten)):=iZ (aW hp) hfl;have etb:T3.tb=x:=st.ext.tb
   have allT:∀b,cx T3 b->H b=none:=fun b hb=>by
    rcases st.all b hb with h|h|h
    ·exact allF b h
    ·exact Hf h
    ·exact h.elim
   refine q T3 fl _ ⟨(st.tab.same s3).apart o2 fun b o e n=>by rw[ai n];exact e,by rw[ah,etb];rfl,by rw[ai (Ne.symm nSf),ah,er],fun y hy=>by rw[List.eq_of_mem_replicate hy];exact hm,List.length_replicate,st.ext.most,o2,st.tab.freshA hfl3⟩ (fun y hy=>?_) (fun b o e n=>?_) allT (Hf hfl2)
   ·refine⟨aM,List.mem_replicate.mpr ⟨by decide,rfl⟩,?_⟩;rcases st.ext.new y hy with h|h
    ·cases h
    ·rw[h];exact .refl
   ·rw[ai n];have n0:¬tK T0 b:=fun h=>by have:=allF b (.inl h);rw[e]at this;cases this
    exact s3 _ _ (st.kp b o (by show aI H1 S _ b=_;rw[ai n];exact s1 _ _ e) n0)
  ·exfalso;obtain⟨h,hN,hn,ho,_,hc⟩:=f
   have hg:T3.gs=[]:=by
    cases e:T3.gs with
    |nil=>rfl
    |cons y l=>
     have hy:y∈T3.gs:=by rw[e];exact List.mem_cons_self
     rcases st.ext.new y hy with h'|h'
     ·cases h'
     ·rw[<-hN]at h';rw[h']at hy;exact absurd hy hn
   rw[hg,st.ext.most,hN]at hc;rcases hc with hc|hc
   ·simp at hc
   ·have hc:1024<optCount []+optC aM:=hc;exact absurd hc (by decide)
end
def rf (cl:Addr) (p:Nat):List (Str×V):=[("calls",.ref cl),("place",iN p)]
theorem Ck{cl:Addr}{p:Nat}:(rf cl p).length<1000:=by show 2<1000;decide
theorem xr {cl:Addr} {p q:Nat}:cG "place" (iN q) (rf cl p)=rf cl q:=by unfold rf;simp only[cG];rfl
def Ag(c:Cl):Sp:=fun vs H Q _=>∃(a dx cl:Addr),vs=[.ref a,.ref cl]/\H a=some (.ins c.R dx [])/\Q .non (aI H a (.ins c.R dx (rf cl 0)))
def zc(K:W.Frag)(c:Cl):Sp:=fun vs H Q _=>∃(a dx cl:Addr)(l:List Int)(p:Nat),vs=[.ref a]/\H a=some (.ins c.R dx (rf cl p))/\aV K H cl (l.map V.int)/\Q (.bl (decide (p<l.length))) H
def zf(K:W.Frag)(c:Cl):Sp:=fun vs H Q _=>∃(a dx cl:Addr)(l:List Int)(p:Nat)(v:Int),vs=[.ref a]/\H a=some (.ins c.R dx (rf cl p))/\cl≠a/\aV K H cl (l.map V.int)/\l[p]?=some v/\Q (.int v) (aI H a (.ins c.R dx (rf cl (p+1))))
def y9(K:W.Frag)(c:Cl):Sp:=fun vs H Q _=>∃(a dx cl:Addr)(l:List Int)(p n:Nat),vs=[.ref a,iN n]/\H a=some (.ins c.R dx (rf cl p))/\cl≠a/\aV K H cl (l.map V.int)/\∀r,H r=none->Q (.ref r) (aI (aI H a (.ins c.R dx (rf cl (p+n)))) r (.lst (((l.drop p).take n).map V.int)))
def zC(K:W.Frag)(c:Cl):Sp:=fun vs H Q _=>∃(a dx cl:Addr)(l:List Int)(p n:Nat),vs=[.ref a]/\H a=some (.ins c.R dx (rf cl p))/\cl≠a/\aV K H cl (l.map V.int)/\l[p]?=some (n:Int)/\∀r,H r=none->Q (.ref r) (aI (aI H a (.ins c.R dx (rf cl (p+1+n)))) r (.lst (((l.drop (p+1)).take n).map V.int)))
theorem vx{K:W.Frag}{H:Hp}{a b:Addr}{o:HO}{xs:List V}(n:b≠a)(h:aV K H b xs):aV K (aI H a o) b xs:=by
 rcases h with h|h
 ·left;unfold Rd at h⊢;rw[ai n];exact h
 ·exact .inr h
section
variable{P:Program}{w:World}{K:W.Frag}{mg:Str->Option Value}{base:Heap}{c:Cl}
theorem sI {f:Addr} {fd:FuncData} (F:dB K "__init__" "Reader.__init__" ja f fd) (tx:dc K mg c):bj P w K mg base (cH P w) 1 f fd ["self","calls"] (Ag c):=by
 refine F.ok0 ub (fun vs H Q E h=>?_) (fun cdv A outer s H vs Q E hr h=>?_)
 ·obtain⟨a,dx,cl,rfl,_⟩:=h;rfl
 ·obtain⟨a,dx,cl,rfl,ha,q⟩:=h;refine⟨_,af (cE (pv 0) (pv 1) rfl) (ak (cE (pv 0) aA rfl)),?_⟩;refine sq (qN yv yv ha tx.clR tx.calls (by decide) ?_);refine qN .c yv ah tx.clR tx.place (by show 1<1000;decide) ?_;rw[dq];exact q
theorem xB {f:Addr} {fd:FuncData} (F:dB K "has_more" "Reader.has_more" eW f fd) (tx:dc K mg c):bj P w K mg base (cH P w) 1 f fd ["self"] (zc K c):=by
 refine F.ok0 oS (fun vs H Q E h=>?_) (fun cdv A outer s H vs Q E hr h=>?_)
 ·obtain⟨a,dx,cl,l,p,rfl,_⟩:=h;rfl
 ·obtain⟨a,dx,cl,l,p,rfl,ha,hl,q⟩:=h;refine⟨_,ak (aN (vN uw (fk K (pv 0)) (aJ (gH K) (by rfl) tx.len PySem.boot_len (aa (fk K (pv 0)) aj)) (aX _))),?_⟩;refine iG (.i0 (.fld yv ha tx.clR tx.place rfl) (.len (aD.one (.fld yv ha tx.clR tx.calls rfl)) hl)) ?_;dsimp only;rw[List.length_map,decide_eq_decide.mpr Int.ofNat_lt];exact q
theorem sS {f:Addr} {fd:FuncData} (F:dB K "take_number" "Reader.take_number" dE f fd) (tx:dc K mg c):bj P w K mg base (cH P w) 1 f fd ["self"] (zf K c):=by
 refine F.ok0 lL (fun vs H Q E h=>?_) (fun cdv A outer s H vs Q E hr h=>?_)
 ·obtain⟨a,dx,cl,l,p,v,rfl,_⟩:=h;rfl
 ·obtain⟨a,dx,cl,l,p,v,rfl,ha,nc,hl,hv,q⟩:=h;refine⟨_,af (lU (pv 0) aA zR) (ak (aN (ba K (fk K (pv 0)) (aO qd (fk K (pv 0)) aA) (fun _ _=>rfl)))),?_⟩;refine sq (wq yv .c ha tx.clR tx.place rfl Ck ?_);rw[show((p:Nat):Int)+1=((p+1:Nat):Int)from rfl,xr];dsimp only;refine iG (.ixL (.fld yv ah tx.clR tx.calls rfl) (.i0 (.fld yv ah tx.clR tx.place rfl) .c) (vx nc hl) (oi (j:=p) (by push_cast;omega) (by rw[List.getElem?_map,hv];rfl))) q
theorem qK {f:Addr} {fd:FuncData} (F:dB K "take_numbers" "Reader.take_numbers" dm f fd) (tx:dc K mg c):bj P w K mg base (cH P w) 1 f fd ["self","how_many"] (y9 K c):=by
 refine F.ok0 kg (fun vs H Q E h=>?_) (fun cdv A outer s H vs Q E hr h=>?_)
 ·obtain⟨a,dx,cl,l,p,n,rfl,_⟩:=h;rfl
 ·obtain⟨a,dx,cl,l,p,n,rfl,ha,nc,hl,q⟩:=h;refine⟨_,af (lU (pv 0) (pv 1) zR) (ak (aN (sM vI (fk K (pv 0)) (mG (aO qd (fk K (pv 0)) (pv 1))) (mG (fk K (pv 0)))))),?_⟩;refine sq (wq yv yv ha tx.clR tx.place rfl Ck ?_);rw[<-Int.natCast_add,xr];dsimp only;have y1:∀{H':Hp} {σ:St},H' a=some (.ins c.R dx (rf cl (p+n)))->aD (aZ 0) σ H' (.ref a)->aD (aZ 1) σ H' (iN n)->aD (fB (n9 fun i j=>.int (i-j)) (dO K (aZ 0) "place") (aZ 1)) σ H' (iN p):=fun e h0 h1=>by have:=aD.i0 (g:=fun i j=>.int (i-j)) (aD.fld h0 e tx.clR tx.place (rfl:(rf cl (p+n)).lookup ("place":Str)=some (iN (p+n)))) h1;rw[show iN p=V.int (((p+n:Nat):Int)-((n:Nat):Int))from congrArg V.int (by push_cast;omega)];exact this
  refine G7 (i:=p) (j:=p+n) (.fld yv ah tx.clR tx.calls rfl) (vx nc hl) (y1 ah yv yv) (.fld yv ah tx.clR tx.place rfl) (by omega) fun r hr'=>?_
  have hrH:H r=none:=by
   by_cases e:r=a
   ·rw[e,ah]at hr';cases hr'
   ·rwa [ai e]at hr'
  rw[show p+n-p=n by omega,<-List.map_drop,<-List.map_take];exact q r hrH
theorem yw {f:Addr} {fd:FuncData} (F:dB K "take_row" "Reader.take_row" fh f fd) (tx:dc K mg c) (m1:iV P w K mg base 1 c.R "take_number" ["self"] (zf K c)) (m2:iV P w K mg base 1 c.R "take_numbers" ["self","how_many"] (y9 K c)):bj P w K mg base (cH P w) 2 f fd ["self"] (zC K c):=by
 refine F.ok0 iO (fun vs H Q E h=>?_) (fun cdv A outer s H vs Q E hr h=>?_)
 ·obtain⟨a,dx,cl,l,p,n,rfl,_⟩:=h;rfl
 ·obtain⟨a,dx,cl,l,p,n,rfl,ha,nc,hl,hn,q⟩:=h;have nd:=iO.nd;refine⟨_,af (du 1 nd (i4 m1 tx.clR hr bq (pv 0))) (ak (aN (cf m2 tx.clR hr bq (pv 0) (aa (pv 1) aj)))),?_⟩;refine sq (j1 yv ha rfl .nil ⟨a,dx,cl,l,p,n,rfl,ha,nc,hl,hn,?_⟩);dsimp only;refine qU yv ah rfl (.one yv) ⟨a,dx,cl,l,p+1,n,rfl,ah,nc,vx nc hl,fun r hr'=>?_⟩
  have hrH:H r=none:=by
   by_cases e:r=a
   ·rw[e,ah]at hr';cases hr'
   ·rwa [ai e]at hr'
  rw[dq];exact q r hrH
end
inductive tV:Int->List Int->List (List Int)->Call->Prop
 |number (d k:Nat) (m:Int):m.natAbs<2^64->tV 0 [(d:Int),m,(k:Int)] [] (.number d m k)
 |heap (d n:Nat):tV 1 [(d:Int),(n:Int)] [] (.heap d n)
 |make (d:Nat) (l r:List Nat):tV 2 [(d:Int)] [l.map fun(n:Nat)=>(n:Int),r.map fun(n:Nat)=>(n:Int)] (.make d l r)
 |minus (d a:Nat):tV 3 [(d:Int),(a:Int)] [] (.minus d a)
 |sum (d a b:Nat):tV 4 [(d:Int),(a:Int),(b:Int)] [] (.sum d a b)
 |times (d a:Nat) (n:Int):tV 5 [(d:Int),(a:Int),n] [] (.times d a n)
 |option (d a side i:Nat):tV 6 [(d:Int),(a:Int),(side:Int),(i:Int)] [] (.option d a side i)
 |order (a b:Nat):tV 7 [(a:Int),(b:Int)] [] (.order a b)
 |shape (a:Nat):tV 8 [(a:Int)] [] (.shape a)
 |room:tV 9 [] [] .room
 |write (a:Nat):tV 10 [(a:Int)] [] (.write a)
 |read (d:Nat) (b:Bytes):b.length<=5000->tV 11 [(d:Int)] [b.map fun(u:UInt8)=>(u.toNat:Int)] (.read d b)
inductive f9(H:Hp):List Addr->List (List Int)->Prop
 |nil:f9 H [] []
 |cons {a:Addr} {as:List Addr} {r:List Int} {rs:List (List Int)}:H a=some (.lst (r.map V.int))->f9 H as rs->f9 H (a::as) (r::rs)
theorem bx{c:TT}{t u:TS}{σ:St}{H:Hp}{D:bN}(h:Yt c σ H false)(q:u D σ H):va c t u D σ H:=DD h (fun h=>nomatch h) fun _=>q
theorem j4{c:TT}{t u:TS}{σ:St}{H:Hp}{D:bN}(h:Yt c σ H true)(q:t D σ H):va c t u D σ H:=DD h (fun _=>q) fun h=>nomatch h
theorem bz{i:Nat}{σ:St}{H:Hp}{a b:Int}(hx:σ[i]?=some (some (.int a)):=by rfl)(h:a≠b:=by decide):Yt (uF (fB GY (aZ i) (tC (.int b)))) σ H false:=by have:=Yt.b (aD.eq (yv (H:=H) hx) (aD.c (v:=.int b)));rw[decide_eq_false h]at this;exact this
theorem qP{i:Nat}{σ:St}{H:Hp}{a:Int}(hx:σ[i]?=some (some (.int a)):=by rfl):Yt (uF (fB GY (aZ i) (tC (.int a)))) σ H true:=by have:=Yt.b (aD.eq (yv (H:=H) hx) (aD.c (v:=.int a)));rw[decide_eq_true rfl]at this;exact this
def Fx(c:Cl):Sp:=fun vs H Q E=>∃(S dx fl ln lr:Addr)(T:Tb)(sl:List ae)(p:Int)(ns:List Int)(rs:List (List Int))(as:List Addr)(gc:Call),vs=[.ref S,.int p,.ref ln,.ref lr]/\tV p ns rs gc/\(p<7\/p=11)/\H ln=some (.lst (ns.map V.int))/\H lr=some (.lst (as.map V.ref))/\f9 H as rs/\bM c H T sl S dx fl/\i9 T sl/\DC c S dx fl T H sl gc Q E
section
variable{P:Program}{w:World}{K:W.Frag}{mg:Str->Option Value}{base:Heap}{c:Cl}
theorem Gr{i:Nat}{σ:St}{H:Hp}{l:Addr}{xs:List V}{k:Nat}{v:V}(e:H l=some (.lst xs))(h:xs[k]?=some v)(hx:σ[i]?=some (some (.ref l)):=by rfl):aD (fB (kh K) (aZ i) (tC (.int (k:Nat)))) σ H v:=.ixL (yv hx) .c (aV.of e) (vt h)
theorem yd {f:Addr} {fd:FuncData} (F:dB K "put_game" "put_game" nO f fd) (tx:dc K mg c) (m0:iV P w K mg base 8 c.S "put_number" ["self","d","m","k"] (EK c)) (m1:iV P w K mg base 8 c.S "put_heap" ["self","d","n"] (Gm c)) (m2:iV P w K mg base 6 c.S "put_made" ["self","d","left_slots","right_slots"] (Gk c)) (m3:iV P w K mg base 7 c.S "put_minus" ["self","d","a"] (ER c)) (m4:iV P w K mg base 7 c.S "put_sum" ["self","d","a","b"] (Gs c)) (m5:iV P w K mg base 8 c.S "put_times" ["self","d","a","n"] (Gd c)) (m6:iV P w K mg base 2 c.S "put_option" ["self","d","a","side","i"] (GP c)) (m11:iV P w K mg base 8 c.S "put_read" ["self","d","text"] (Gh c)) :bj P w K mg base (cH P w) 9 f fd ["slots","call","numbers","rows"] (Fx c):=by
 refine F.okX yS (fun vs H Q E h=>?_) (fun cdv A outer s H vs Q E hr L h=>?_)
 ·obtain⟨S,dx,fl,ln,lr,T,sl,p,ns,rs,as,gc,rfl,_⟩:=h;rfl
 ·obtain⟨S,dx,fl,ln,lr,T,sl,p,ns,rs,as,gc,rfl,hdec,hp,hln,hlr,hrs,h,ti,an⟩:=h;refine⟨_,ak (bC (aK d5 (pv 1) (aL tx.NUMBER) (aX _)) (ak (aR (cf m0 tx.clS hr L.passes (pv 0) (aa (ba K (pv 2) aA (fun _ _=>rfl)) (aa (ba K (pv 2) aA (fun _ _=>rfl)) (aa (ba K (pv 2) aA (fun _ _=>rfl)) aj)))))) (ak (bC (aK d5 (pv 1) (aL tx.HEAP) (aX _)) (ak (aR (cf m1 tx.clS hr L.passes (pv 0) (aa (ba K (pv 2) aA (fun _ _=>rfl)) (aa (ba K (pv 2) aA (fun _ _=>rfl)) aj))))) (ak (bC (aK d5 (pv 1) (aL tx.MAKE) (aX _)) (ak (aR (cf m2 tx.clS (hr.mono (show 6<=8 by decide)) L.passes (pv 0) (aa (ba K (pv 2) aA (fun _ _=>rfl)) (aa (ba K (pv 3) aA (fun _ _=>rfl)) (aa (ba K (pv 3) aA (fun _ _=>rfl)) aj)))))) (ak (bC (aK d5 (pv 1) (aL tx.MINUS) (aX _)) (ak (aR (cf m3 tx.clS (hr.mono (show 7<=8 by decide)) L.passes (pv 0) (aa (ba K (pv 2) aA (fun _ _=>rfl)) (aa (ba K (pv 2) aA (fun _ _=>rfl)) aj))))) (ak (bC (aK d5 (pv 1) (aL tx.SUM_OF) (aX _)) (ak (aR (cf m4 tx.clS (hr.mono (show 7<=8 by decide)) L.passes (pv 0) (aa (ba K (pv 2) aA (fun _ _=>rfl)) (aa (ba K (pv 2) aA (fun _ _=>rfl)) (aa (ba K (pv 2) aA (fun _ _=>rfl)) aj)))))) (ak (bC (aK d5 (pv 1) (aL tx.TIMES) (aX _)) (ak (aR (cf m5 tx.clS hr L.passes (pv 0) (aa (ba K (pv 2) aA (fun _ _=>rfl)) (aa (ba K (pv 2) aA (fun _ _=>rfl)) (aa (ba K (pv 2) aA (fun _ _=>rfl)) aj)))))) (ak (bC (aK d5 (pv 1) (aL tx.OPTION) (aX _)) (ak (aR (cf m6 tx.clS (hr.mono (show 2<=8 by decide)) L.passes (pv 0) (aa (ba K (pv 2) aA (fun _ _=>rfl)) (aa (ba K (pv 2) aA (fun _ _=>rfl)) (aa (ba K (pv 2) aA (fun _ _=>rfl)) (aa (ba K (pv 2) aA (fun _ _=>rfl)) aj))))))) (ak (bC (aK d5 (pv 1) (aL tx.READ) (aX _)) (ak (aR (cf m11 tx.clS hr L.passes (pv 0) (aa (ba K (pv 2) aA (fun _ _=>rfl)) (aa (ba K (pv 3) aA (fun _ _=>rfl)) aj))))) a8))))))))))))))),?_⟩;have yn:∀{k:Nat} {v:Int},ns[k]?=some v->aD (fB (kh K) (aZ 2) (tC (.int (k:Nat)))) (start ["slots","call","numbers","rows"] [.ref S,.int p,.ref ln,.ref lr]) H (.int v):=fun hk=>Gr hln (by rw[List.getElem?_map,hk];rfl);cases hdec with
  |number d k m hm=>exact j4 qP (dy yv h.obj rfl (.cons (yn (k:=0) rfl) (.cons (yn (k:=1) rfl) (.one (yn (k:=2) rfl)))) ⟨S,dx,fl,T,sl,d,m,k,rfl,hm,h,ti,an⟩)
  |heap d n=>exact bx bz (j4 qP (dy yv h.obj rfl (.cons (yn (k:=0) rfl) (.one (yn (k:=1) rfl))) ⟨S,dx,fl,T,sl,d,n,rfl,h,ti,an⟩))
  |make d l r=>
   cases hrs with
   |cons e1 hrs=>cases hrs with
    |cons e2 hrs=>rename_i a1 a2 as';cases hrs;exact bx bz (bx bz (j4 qP (dy yv h.obj rfl (.cons (yn (k:=0) rfl) (.cons (Gr (k:=0) hlr rfl) (.one (Gr (k:=1) hlr rfl)))) ⟨S,dx,fl,T,sl,d,a1,_,l,r,rfl,by rw[e1,List.map_map];rfl,by rw[e2,List.map_map];rfl,h,ti,an⟩)))
  |minus d a=>exact bx bz (bx bz (bx bz (j4 qP (dy yv h.obj rfl (.cons (yn (k:=0) rfl) (.one (yn (k:=1) rfl))) ⟨S,dx,fl,T,sl,d,a,rfl,h,ti,an⟩))))
  |sum d a b=>exact bx bz (bx bz (bx bz (bx bz (j4 qP (dy yv h.obj rfl (.cons (yn (k:=0) rfl) (.cons (yn (k:=1) rfl) (.one (yn (k:=2) rfl)))) ⟨S,dx,fl,T,sl,d,a,b,rfl,h,ti,an⟩)))))
  |times d a n=>exact bx bz (bx bz (bx bz (bx bz (bx bz (j4 qP (dy yv h.obj rfl (.cons (yn (k:=0) rfl) (.cons (yn (k:=1) rfl) (.one (yn (k:=2) rfl)))) ⟨S,dx,fl,T,sl,d,a,n,rfl,h,ti,an⟩))))))
  |option d a side i=>exact bx bz (bx bz (bx bz (bx bz (bx bz (bx bz (j4 qP (dy yv h.obj rfl (.cons (yn (k:=0) rfl) (.cons (yn (k:=1) rfl) (.cons (yn (k:=2) rfl) (.one (yn (k:=3) rfl))))) ⟨S,dx,fl,T,sl,d,a,side,i,rfl,h,ti,an⟩)))))))
  |read d b hb=>
   cases hrs with
   |cons e1 hrs=>rename_i a1 as';cases hrs;exact bx bz (bx bz (bx bz (bx bz (bx bz (bx bz (bx bz (j4 qP (dy yv h.obj rfl (.cons (yn (k:=0) rfl) (.one (Gr (k:=0) hlr rfl))) ⟨S,dx,fl,T,sl,d,a1,b,rfl,by rw[e1,List.map_map];rfl,hb,h,ti,an⟩))))))))
  |order a b=>omega
  |shape a=>omega
  |room=>omega
  |write a=>omega
end
theorem Er{te:TE}{σ:St}{H:Hp}{D:bN}(h:te σ H fun v H1=>[v].length<=sizeLine/\∀p,H1 p=none->D.rt (.ref p) (aI H1 p (.lst [v]))):ke (nP (a_ te ck)) D σ H:=h
theorem zZ{A te:TE}{σ:St}{H:Hp}{D:bN}{xs:List V}(hA:mY A σ H xs)(h:∀p H1,aB H H1->H1 p=some (.lst xs)->te σ H1 fun v H2=>t_ (.ref p) v H2 D.rt):ke (fB t_ A te) D σ H:=hA _ h
theorem uQ{CP CT:Addr}{H:Hp}{T:Tb}(t:bP CP CT H T){g:ae}(hg:g∈T.gs):(cD g).length<=3+96*400:=by
 have inP:∀x∈ao g,x∈T.gs:=fun x hx=>t.ok.part hg (aP.mp hx);have lP:(ao g).length<=96:=Nat.le_trans (aC (fy g).1 inP) t.len;have h1:((ao g).flatMap (bA (ao g))).length<=(ao g).length*400:=jl fun y hy=>by have a:=ee t (inP y hy) (d:=false);have b:=ee t (inP y hy) (d:=true);rw[nr];unfold jF;rw[qo]at a;rw[qf]at b;simp only[List.length_map];omega
 unfold cD;rw[List.length_cons,List.length_append];have e1:(le2 (ao g).length).length=2:=rfl;have:(ao g).length*400<=96*400:=Nat.mul_le_mul_right _ lP;omega
def F2(c:Cl)(S dx fl:Addr)(T:Tb)(H:Hp)(sl:List ae)(gc:Call)(Q:VK)(E:XK):Prop:=(∀T' H' r,Fr fl T H T' H'->bM c H' T' (aG sl gc).1 S dx fl->H r=none->¬cx T' r->r≠fl->H' r=some (.lst ((aG sl gc).2.nums.map V.int))->Q (.ref r) H')/\∀cls k T' H',(cls,k)∈fU c->Fr fl T H T' H'->bM c H' T' sl S dx fl->aG sl gc=(sl,says k)->E (.ref cls) none H'
def z0(c:Cl):Sp:=fun vs H Q E=>∃(S dx fl ln lr:Addr)(T:Tb)(sl:List ae)(p:Int)(ns:List Int)(rs:List (List Int))(as:List Addr)(gc:Call),vs=[.ref S,.int p,.ref ln,.ref lr]/\tV p ns rs gc/\H ln=some (.lst (ns.map V.int))/\H lr=some (.lst (as.map V.ref))/\f9 H as rs/\bM c H T sl S dx fl/\i9 T sl/\F2 c S dx fl T H sl gc Q E
theorem F2.at{c:Cl}{S dx fl:Addr}{T:Tb}{H:Hp}{sl:List ae}{gc:Call}{Q:VK}{E:XK}(t:F2 c S dx fl T H sl gc Q E)(h:bM c H T sl S dx fl){H':Hp}{r:Addr}(s:aB H H')(e:(aG sl gc).1=sl)(hr:H r=none)(er:H' r=some (.lst ((aG sl gc).2.nums.map V.int))):Q (.ref r) H':=t.1 T H' r (.same s) (by rw[e];exact h.same s) hr (h.tab.freshA hr) (fun e'=>by rw[e',h.lst]at hr;cases hr) er
section
variable{P:Program}{w:World}{K:W.Frag}{mg:Str->Option Value}{base:Heap}{c:Cl}
theorem wx {f:Addr} {fd:FuncData} (F:dB K "carry_out" "carry_out" km f fd) (tx:dc K mg c) (mO:iV P w K mg base 2 c.S "tell_order" ["self","a","b"] (EA c)) (mS:iV P w K mg base 2 c.S "tell_shape" ["self","a"] (Ez c)) (mR:iV P w K mg base 1 c.S "tell_room" ["self"] (Gf c)) (mB:iV P w K mg base 3 c.S "tell_bytes" ["self","a"] (EC c)) (gP:gX P w K mg base 9 "put_game" ["slots","call","numbers","rows"] (Fx c)):bj P w K mg base (cH P w) 10 f fd ["slots","call","numbers","rows"] (z0 c):=by
 refine F.okX qx (fun vs H Q E h=>?_) (fun cdv A outer s H vs Q E hr L h=>?_)
 ·obtain⟨S,dx,fl,ln,lr,T,sl,p,ns,rs,as,gc,rfl,_⟩:=h;rfl
 ·obtain⟨S,dx,fl,ln,lr,T,sl,p,ns,rs,as,gc,rfl,hdec,hln,hlr,hrs,h,ti,to⟩:=h;have nd:=qx.nd;have hr2:=hr.mono (show 2<=9 by decide);refine⟨_,af (bC (aK d5 (pv 1) (aL tx.ORDER) (aX _)) (ak (aN (bb (aa (cf mO tx.clS hr2 L.passes (pv 0) (aa (ba K (pv 2) aA (fun _ _=>rfl)) (aa (ba K (pv 2) aA (fun _ _=>rfl)) aj))) aj)))) a8) (af (bC (aK d5 (pv 1) (aL tx.SHAPE) (aX _)) (ak (aN (aO i3 (bb (aa aA aj)) (cf mS tx.clS hr2 L.passes (pv 0) (aa (ba K (pv 2) aA (fun _ _=>rfl)) aj))))) a8) (af (bC (aK d5 (pv 1) (aL tx.ROOM) (aX _)) (ak (aN (aO i3 (bb (aa aA aj)) (i4 mR tx.clS (hr.mono (show 1<=9 by decide)) bq (pv 0))))) a8) (af (bC (aK d5 (pv 1) (aL tx.WRITE) (aX _)) (af (du 4 nd (cf mB tx.clS (hr.mono (show 3<=9 by decide)) L.passes (pv 0) (aa (ba K (pv 2) aA (fun _ _=>rfl)) aj))) (ak (aN (aO i3 (bb (aa aA (aa (aJ (gH K) (by rfl) tx.len PySem.boot_len (aa (pv 4) aj)) aj))) (pv 4))))) a8) (af (aR (bS gP hr L.passes (aa (pv 0) (aa (pv 1) (aa (pv 2) (aa (pv 3) aj)))))) (ak (aN (bb (aa aA aj)))))))),?_⟩;have yn:∀{k:Nat} {v:Int} {H':Hp},aB H H'->ns[k]?=some v->aD (fB (kh K) (aZ 2) (tC (.int (k:Nat)))) (start ["slots","call","numbers","rows","text"] [.ref S,.int p,.ref ln,.ref lr]) H' (.int v):=fun s hk=>Gr (s _ _ hln) (by rw[List.getElem?_map,hk];rfl);have noP:∀{H':Hp},aB H H'->aG sl gc=(sl,says (-1))->E (.ref c.oP) none H':=fun s' e=>to.2 c.oP (-1) T _ DA (.same s') (h.same s') e;have puts:(p<7\/p=11)->ve (ka (fY (Fx c) [] E (a_ (aZ 0) (a_ (aZ 1) (a_ (aZ 2) (a_ (aZ 3) ck)))))) (ke (nP (a_ (tC (.int 0)) ck))) { nx:=fun _ H'=>Q .non H',rt:=Q } (start ["slots","call","numbers","rows","text"] [.ref S,.int p,.ref ln,.ref lr]) H:=by intro hp;refine sq (kK (.cons yv (.cons yv (.cons yv (.one yv)))) ⟨S,dx,fl,ln,lr,T,sl,p,ns,rs,as,gc,rfl,hdec,hp,hln,hlr,hrs,h,ti,fun T' H' fr h' e=>?_,to.2⟩);dsimp only;refine wb (.one .c) (by show 1<=sizeLine;decide) fun r hr'=>?_;refine to.1 T' _ r (fr.trans (Fr.same (aW hr'))) (h'.same (aW hr')) (fr.live r hr') (h'.tab.freshA hr') (fun e'=>by rw[e',h'.lst]at hr';cases hr') ?_;rw[ah,e];rfl
  cases hdec with
  |order a b=>refine sq (j4 qP (Er (lF yv h.obj rfl (.cons (yn (k:=0) (aB.refl H) rfl) (.one (yn (k:=1) (aB.refl H) rfl))) ⟨S,dx,fl,T,sl,a,b,rfl,h,fun k H1 s1 e=>⟨by show 1<=sizeLine;decide,fun r hr'=>?_⟩,fun H1 s1 e=>noP s1 e⟩)));refine to.at h (iZ s1 hr') (by rw[e]) (s1.free hr') ?_;rw[ah,e];rfl
  |shape a=>
   refine sq (bx bz ?_);dsimp only[cO];refine sq (j4 qP (zZ (mY.new (.one .c) (by show 1<=sizeLine;decide)) fun p1 H1 s1 e1=>lF yv (s1 _ _ h.obj) rfl (.one (yn (k:=0) s1 rfl)) ⟨S,dx,fl,T,sl,a,rfl,h.same s1,fun p2 H2 hp2 s2 ha e2=>⟨p1,p2,_,_,rfl,rfl,s2 _ _ e1,e2,by show 6<=sizeLine;decide,fun r hr'=>?_⟩,fun H2 s2 ha=>noP (s1.trans s2) ?_⟩))
   ·have ea:aG sl (.shape a)=(sl,tells 0 [.num (ao (val sl a)).length,.num (optCount (ao (val sl a))),.num (born (val sl a)),.num (val sl a).left.length,.num (val sl a).right.length]):=by unfold aG;dsimp only;rw[if_neg (by rw[bG ha];decide)]
    refine to.at h (iZ (s1.trans s2) hr') (by rw[ea]) ((s1.trans s2).free hr') ?_;rw[ah,ea];rfl
   ·unfold aG;dsimp only;rw[if_pos (df ha)]
  |room=>refine sq (bx bz ?_);dsimp only[cO];refine sq (bx bz ?_);dsimp only[cO];refine sq (j4 qP (zZ (mY.new (.one .c) (by show 1<=sizeLine;decide)) fun p1 H1 s1 e1=>lF yv (s1 _ _ h.obj) rfl .nil ⟨S,dx,fl,T,sl,rfl,h.same s1,ti,fun p2 H2 hp2 s2 e2=>⟨p1,p2,_,_,rfl,rfl,s2 _ _ e1,e2,by show 3<=sizeLine;decide,fun r hr'=>?_⟩⟩));refine to.at h (iZ (s1.trans s2) hr') rfl ((s1.trans s2).free hr') ?_;rw[ah];rfl
  |write a=>
   refine sq (bx bz ?_);dsimp only[cO];refine sq (bx bz ?_);dsimp only[cO];refine sq (bx bz ?_);dsimp only[cO];refine sq (j4 qP (sq (j1 yv h.obj rfl (.one (yn (k:=0) (aB.refl H) rfl)) ⟨S,dx,fl,T,sl,a,rfl,h,fun p2 H2 hp2 s2 ha e2=>?_,fun H2 s2 ha=>noP s2 ?_⟩)))
   ·have ea:aG sl (.write a)=(sl,tells 0 [.text (cD (val sl a))]):=by unfold aG;dsimp only;rw[if_neg (by rw[bG ha];decide)]
    dsimp only;refine DU (xs:=[.int 0,.int ((bI (cD (val sl a))).length:Nat)]) (ys:=bI (cD (val sl a))) (.new (.cons .c (.one (.len (aD.one yv) (aV.of e2)))) (by show 2<=sizeLine;decide)) (fun H' s'=>.y yv (s' _ _ e2)) ?_ fun r H' s' hr'=>?_
    ·rw[hW];exact Nat.le_trans (Nat.add_le_add (Nat.le_refl 2) (uQ h.tab (h.mem _ (h.val ha).1))) (by decide)
    ·refine to.at h (iZ (s2.trans s') hr') (by rw[ea]) ((s2.trans s').free hr') ?_;rw[ah,ea,hW];unfold bI Answer.nums tells Item.nums;simp
   ·unfold aG;dsimp only;rw[if_pos (df ha)]
  |number d k m hm=>exact sq (bx bz (sq (bx bz (sq (bx bz (sq (bx bz (puts (.inl (by decide))))))))))
  |heap d n=>exact sq (bx bz (sq (bx bz (sq (bx bz (sq (bx bz (puts (.inl (by decide))))))))))
  |make d l r=>exact sq (bx bz (sq (bx bz (sq (bx bz (sq (bx bz (puts (.inl (by decide))))))))))
  |minus d a=>exact sq (bx bz (sq (bx bz (sq (bx bz (sq (bx bz (puts (.inl (by decide))))))))))
  |sum d a b=>exact sq (bx bz (sq (bx bz (sq (bx bz (sq (bx bz (puts (.inl (by decide))))))))))
  |times d a n=>exact sq (bx bz (sq (bx bz (sq (bx bz (sq (bx bz (puts (.inl (by decide))))))))))
  |option d a side i=>exact sq (bx bz (sq (bx bz (sq (bx bz (sq (bx bz (puts (.inl (by decide))))))))))
  |read d b hb=>exact sq (bx bz (sq (bx bz (sq (bx bz (sq (bx bz (puts (.inr rfl)))))))))
end
theorem wg{X:Cx}{n:Int}{j:Nat}{p pos:Pos}:PE X (.UnaryOp .USub (.Constant (.int n) j p) pos) (tC (.int (-n))):=fun pins s σ H Q I h=>(EH Fn aA) pins s σ H Q I ⟨n,rfl,h⟩
def xU(c:Cl):Sp:=fun vs H Q E=>∃(S dx fl ln lr:Addr)(T:Tb)(sl:List ae)(p:Int)(ns:List Int)(rs:List (List Int))(as:List Addr)(gc:Call),vs=[.ref S,.int p,.ref ln,.ref lr]/\tV p ns rs gc/\H ln=some (.lst (ns.map V.int))/\H lr=some (.lst (as.map V.ref))/\f9 H as rs/\bM c H T sl S dx fl/\i9 T sl/\∀T' H' r,Fr fl T H T' H'->bM c H' T' (aG sl gc).1 S dx fl->i9 T' (aG sl gc).1->H r=none->¬cx T' r->r≠fl->H' r=some (.lst ((aG sl gc).2.nums.map V.int))->Q (.ref r) H'
section
variable{P:Program}{w:World}{K:W.Frag}{mg:Str->Option Value}{base:Heap}{c:Cl}
theorem BJ {f:Addr} {fd:FuncData} (F:dB K "answer" "answer" rE f fd) (tx:dc K mg c) (cn:((fU c).map (·.1)).Nodup) (gC:gX P w K mg base 10 "carry_out" ["slots","call","numbers","rows"] (z0 c)) (mT:iV P w K mg base 3 c.S "tidy" ["self"] (zH c)):bj P w K mg base (cH P w) 11 f fd ["slots","call","numbers","rows"] (xU c):=by
 refine F.ok0 wZ (fun vs H Q E h=>?_) (fun cdv A outer s H vs Q E hr h=>?_)
 ·obtain⟨S,dx,fl,ln,lr,T,sl,p,ns,rs,as,gc,rfl,_⟩:=h;rfl
 ·obtain⟨S,dx,fl,ln,lr,T,sl,p,ns,rs,as,gc,rfl,hdec,hln,hlr,hrs,h,ti,q⟩:=h;have nd:=wZ.nd
  have hex:∀a∈fU c,∀b∈fU c,W.exmOne K (.ref a.1) (.ref b.1)=some (decide (a.1=b.1)):=by
   intro a ha b hb;refine tx.exm a.1 ?_ b.1 ?_
   ·unfold fU at ha;simp only[List.mem_cons,List.not_mem_nil,or_false]at ha⊢;rcases ha with rfl|rfl|rfl|rfl<;>simp
   ·unfold fU at hb;simp only[List.mem_cons,List.not_mem_nil,or_false]at hb⊢;rcases hb with rfl|rfl|rfl|rfl<;>simp
  refine⟨_,af (yV (i:=4) (L:=fU c) gC hr ⟨rfl,rfl,rfl⟩ nd rfl (Or.inl rfl) (Or.inl rfl) (fun _=>aa (pv 0) (aa (pv 1) (aa (pv 2) (aa (pv 3) aj)))) (.cons (by rfl) tx.xoP.bound (by decide) (fun _ _=>ak (du 4 nd (bb (aa wg aj)))) (.cons (by rfl) tx.xoR.bound (by decide) (fun _ _=>ak (du 4 nd (bb (aa wg aj)))) (.cons (by rfl) tx.xnG.bound (by decide) (fun _ _=>ak (du 4 nd (bb (aa wg aj)))) (.cons (by rfl) tx.xnR.bound (by decide) (fun _ _=>ak (du 4 nd (bb (aa wg aj)))) .nil)))) cn hex) (af (aR (i4 mT tx.clS (hr.mono (show 3<=10 by decide)) bq (pv 0))) (ak (aN (pv 4)))),?_⟩
  have behind:∀T1 H1 r,Fr fl T H T1 H1->bM c H1 T1 (aG sl gc).1 S dx fl->H r=none->¬cx T1 r->r≠fl->H1 r=some (.lst ((aG sl gc).2.nums.map V.int))->ve (ka (fx c.S "tidy" (zH c) [] E0 (aZ 0) ck)) (ke (aZ 4)) { nx:=fun _ H'=>Q .non H',rt:=Q } [some (.ref S),some (.int p),some (.ref ln),some (.ref lr),some (.ref r)] H1:=by
   intro T1 H1 r fr h1 hr0 nT nf er;refine sq (dy yv h1.obj rfl .nil ⟨S,dx,fl,T1,(aG sl gc).1,rfl,h1,fun T2 H2 fr2 h2 ti2=>?_⟩);dsimp only;refine iG yv (q T2 H2 r (fr.trans fr2) h2 ti2 hr0 (fun hT=>(fr2.all r hT).elim nT fun h'=>by rw[h']at er;cases er) nf (fr2.kp r _ er ?_));rintro(h'|h')
   ·exact nT (.inl h')
   ·exact nf h'
  refine sq ?_;refine(YA.cons yv (.cons yv (.cons yv (.one yv))):YA (a_ (aZ 0) (a_ (aZ 1) (a_ (aZ 2) (a_ (aZ 3) ck)))) _ H [.ref S,.int p,.ref ln,.ref lr]) _ ⟨S,dx,fl,ln,lr,T,sl,p,ns,rs,as,gc,rfl,hdec,hln,hlr,hrs,h,ti,fun T1 H1 r fr h1 hr0 nT nf er=>behind T1 H1 r fr h1 hr0 nT nf er,fun cls k T1 H1 hin fr h1 e=>⟨cls,k,hin,rfl,fun r hr'=>?_⟩⟩;refine behind T1 _ r (fr.trans (Fr.same (aW hr'))) (by rw[e];exact h1.same (aW hr')) (fr.live r hr') (h1.tab.freshA hr') (fun e'=>by rw[e',h1.lst]at hr';cases hr') ?_;rw[ah,e];rfl
end
def dW(rs:List (List Int)):List Int:=rs.flatMap fun r=>(r.length:Int)::r
inductive kJ:List Int->List Call->Prop
 |nil:kJ [] []
 |cons {p:Int} {ns:List Int} {rs:List (List Int)} {gc:Call} {rest:List Int} {gcs:List Call}:tV p ns rs gc->kJ rest gcs->kJ (p::(ns++(dW rs++rest))) (gc::gcs)
noncomputable def tF:List ae->List Call->List Int
 |_,[]=>[]
 |sl,gc::gcs=>((aG sl gc).2.nums.length:Int)::((aG sl gc).2.nums++tF (aG sl gc).1 gcs)
def GM:List Int:=[3,2,1,2,3,3,4,2,1,0,1,1]
def GR:List Int:=[0,0,2,0,0,0,0,0,0,0,0,1]
theorem tV.counts{p:Int}{ns:List Int}{rs:List (List Int)}{gc:Call}(h:tV p ns rs gc):∃k:Nat,p=(k:Int)/\GM[k]?=some (ns.length:Int)/\GR[k]?=some (rs.length:Int):=by
 cases h
 ·exact⟨0,rfl,rfl,rfl⟩
 ·exact⟨1,rfl,rfl,rfl⟩
 ·exact⟨2,rfl,rfl,rfl⟩
 ·exact⟨3,rfl,rfl,rfl⟩
 ·exact⟨4,rfl,rfl,rfl⟩
 ·exact⟨5,rfl,rfl,rfl⟩
 ·exact⟨6,rfl,rfl,rfl⟩
 ·exact⟨7,rfl,rfl,rfl⟩
 ·exact⟨8,rfl,rfl,rfl⟩
 ·exact⟨9,rfl,rfl,rfl⟩
 ·exact⟨10,rfl,rfl,rfl⟩
 ·exact⟨11,rfl,rfl,rfl⟩
theorem tV.few{p:Int}{ns:List Int}{rs:List (List Int)}{gc:Call}(h:tV p ns rs gc):rs.length<=2:=by cases h<;>simp
theorem oU(k:Int):(says k).nums.length=1:=rfl
theorem Ct(sl:List ae)(d:Nat)(g:ae):(cQ sl d g).2.nums.length=1:=by unfold cQ;split<;>rfl
theorem eY(sl:List ae)(d:Nat)(g:ae):(cQ sl d g).2.nums.length<=38405:=by rw[Ct];decide
theorem cW{sl:List ae}{k:Int}:(sl,says k).2.nums.length<=38405:=by show 1<=_;decide
theorem dM{p:Prop}{i:Decidable p}{x y:List ae×Answer}(h1:x.2.nums.length<=38405)(h2:y.2.nums.length<=38405):(if p then x else y).2.nums.length<=38405:=by
 by_cases c:p
 ·rw[if_pos c];exact h1
 ·rw[if_neg c];exact h2
theorem Cr{c:Cl}{H:Hp}{T:Tb}{sl:List ae}{S dx fl:Addr}(h:bM c H T sl S dx fl)(gc:Call):(aG sl gc).2.nums.length<=38405:=by
 cases gc with
 |write a=>
  unfold aG;dsimp only;by_cases ha:a<16
  ·rw[if_neg (by rw[bG ha];decide)];have:=uQ h.tab (h.mem _ (h.val ha).1);show(0::([Item.text (cD (val sl a))].flatMap Item.nums)).length<=_;simp[Item.nums];omega
  ·rw[if_pos (df ha),oU];decide
 |number d m k=>exact dM cW (dM cW (eY _ _ _))
 |heap d n=>exact dM cW (eY _ _ _)
 |make d l r=>exact dM cW (eY _ _ _)
 |minus d a=>exact dM cW (eY _ _ _)
 |sum d a b=>exact dM cW (dM cW cW)
 |times d a n=>
  refine dM cW (dM cW (dM (eY _ _ _) (dM (eY _ _ _) ?_)));cases jo (n.natAbs-1) sl (if n<0 then aq (bo (val sl a))else val sl a) (if n<0 then aq (bo (val sl a))else val sl a)with
  |none=>exact cW
  |some x=>exact eY _ _ _
 |option d a side i=>
  refine dM cW ?_;cases(if side=0 then(val sl a).left else(val sl a).right)[i]? with
  |none=>exact cW
  |some x=>exact eY _ _ _
 |order a b=>
  unfold aG;dsimp only;by_cases c1:isSlot a=false\/isSlot b=false
  ·rw[if_pos c1,oU];decide
  ·rw[if_neg c1,oU];decide
 |shape a=>
  unfold aG;dsimp only;by_cases c1:isSlot a=false
  ·rw[if_pos c1,oU];decide
  ·rw[if_neg c1];show 6<=_;decide
 |room=>show 3<=_;decide
 |read d b=>
  refine dM cW ?_;by_cases c1:∃g,bT b g
  ·rw[dif_pos c1];exact eY _ _ _
  ·rw[dif_neg c1];exact cW
theorem EJ {X:Cx} {x:Str} {a:Addr} {pos:Pos} (h:X.mg x=some (.ref a)) (hg:Gl X x:=by rfl) (hd:(x==("__debug__":Str))=false:=by decide):PE X (.Name x pos) (tC (.ref a)):=AJ hg h rfl hd
theorem f9.snoc{H:Hp}:∀{as:List Addr}{rs:List (List Int)}{a:Addr}{r:List Int},f9 H as rs->H a=some (.lst (r.map V.int))->f9 H (as++[a]) (rs++[r])
 |_,_,_,_,.nil,h=>.cons h .nil
 |_,_,_,_,.cons e t,h=>.cons e (t.snoc h)
theorem f9.keep{H H':Hp}{P:Addr->Prop}:∀{as:List Addr}{rs:List (List Int)},f9 H as rs->(∀a∈as,P a)->(∀a o,P a->H a=some o->H' a=some o)->f9 H' as rs
 |_,_,.nil,_,_=>.nil
 |_,_,.cons e t,hp,k=>.cons (k _ _ (hp _ List.mem_cons_self) e) (t.keep (fun a ha=>hp a (List.mem_cons_of_mem _ ha)) k)
theorem f9.len{H:Hp}:∀{as:List Addr}{rs:List (List Int)},f9 H as rs->as.length=rs.length
 |_,_,.nil=>rfl
 |_,_,.cons _ t=>by rw[List.length_cons,List.length_cons,t.len]
theorem vR{K:W.Frag}{H H':Hp}{b:Addr}{xs:List V}(h:aV K H b xs)(n:H b≠none)(k:∀o,H b=some o->H' b=some o):aV K H' b xs:=by
 rcases h with h|h
 ·left;rcases h with h|⟨o,h⟩
  ·exact .inl (k _ h)
  ·exact .inr ⟨o,k _ h⟩
 ·exact .inr h
def md(K:W.Frag)(c:Cl):Sp:=fun vs H Q _=>∃(cl:Addr)(l:List Int)(gcs:List Call),vs=[.ref cl]/\aV K H cl (l.map V.int)/\H cl≠none/\kJ l gcs/\gcs.length<=400/\∀r H',aB H H'->H' r=some (.lst ((tF (List.replicate 16 aM) gcs).map V.int))->Q (.ref r) H'
theorem A4{K:W.Frag}{mg:Str->Option Value}{c:Cl}{E:XK}(tx:dc K mg c){ta:TA}{σ:St}{H:Hp}{Q:VK}{a dx cl:Addr}{l rest:List Int}{p:Nat}{rs:List (List Int)}(hi:YA ta σ H [iN rs.length])(hz:rs.length<=2)(h1:(b8 σ [8])[1]?=some (some (.ref a)))(hl8:8<σ.length) (ha:H a=some (.ins c.R dx (rf cl p))) (nc:cl≠a) (ncl:H cl≠none) (hl:aV K H cl (l.map V.int)) (hrem:l.drop p=dW rs++rest) (q:∀D as H',H D=none->(∀b o,H b=some o->b≠a->H' b=some o)->H' a=some (.ins c.R dx (rf cl (p+(dW rs).length)))->f9 H' as rs->(∀b∈as,H b=none)->H' D=some (.lst (as.map V.ref))->Q (.ref D) H') :Ah (uB ta) (bw 8) DX (fx c.R "take_row" (zC K c) [] E (aZ 1) ck) [8] σ H Q:=by
 refine hi _ ⟨_,rfl,fun D hD=>?_⟩;rw[Int.toNat_natCast];have nDa:D≠a:=fun h=>by rw[h,ha]at hD;cases hD
 refine BU (lo:=0) (n:=rs.length) (Qd:=fun H'=>Q (.ref D) H') (fun i H'=>∃as,(∀b o,H b=some o->b≠a->H' b=some o)/\H' a=some (.ins c.R dx (rf cl (p+(dW (rs.take i)).length)))/\f9 H' as (rs.take i)/\(∀b∈as,H b=none/\b≠D)/\H' D=some (.lst (as.map V.ref))) ?_ ?_ ?_
 ·refine⟨[],fun b o e n=>by rw[ai (au e hD)];exact e,?_,?_,(fun _ h=>nomatch h),ah⟩
  ·rw[ai (Ne.symm nDa),List.take_zero];exact ha
  ·rw[List.take_zero];exact .nil
 ·rintro i H' hilt ⟨as,kp,ha',hrl,hfr,hDl⟩;obtain⟨r,hr⟩:∃r,rs[i]?=some r:=⟨_,List.getElem?_eq_getElem hilt⟩
  have esp:=sE hr
  have elen:l.drop (p+(dW (rs.take i)).length)=(r.length:Int)::(r++(dW (rs.drop (i+1))++rest)):=by
   have e1:dW rs=dW (rs.take i)++((r.length:Int)::(r++dW (rs.drop (i+1)))):=by
    conv=>lhs;rw[esp]
    unfold dW;rw[List.flatMap_append,List.flatMap_cons];rfl
   rw[<-List.drop_drop,hrem,e1,List.append_assoc,List.drop_left];simp
  have hv:l[p+(dW (rs.take i)).length]?=some ((r.length:Nat):Int):=by have:=congrArg (fun z=>z[0]?) elen;simpa using this
  have hsl:aV K H' cl (l.map V.int):=vR hl ncl fun o e=>kp _ o e nc;refine⟨sA,?_⟩;unfold DX;dsimp only;rw[if_pos rfl];have y1:aD (aZ 1) ((b8 σ [8]).set 8 (some (.int (0+((i:Nat):Int))))) H' (.ref a):=yv (by rw[List.getElem?_set_ne (by decide)];exact h1);refine lF y1 ha' rfl .nil ⟨a,dx,cl,l,_,r.length,rfl,ha',nc,hsl,hv,fun x hx=>?_⟩
  have hxH:H x=none:=by
   cases e:H x with
   |none=>rfl
   |some o=>
    by_cases ea:x=a
    ·rw[ea,ha']at hx;cases hx
    ·rw[kp x o e ea]at hx;cases hx
  have nxD:x≠D:=fun e=>by rw[e,hDl]at hx;cases hx
  have nxa:x≠a:=fun e=>by rw[e,ha']at hx;cases hx
  have er:(l.drop (p+(dW (rs.take i)).length+1)).take r.length=r:=by rw[<-List.drop_drop,elen];simp
  rw[er];have efl:p+(dW (rs.take i)).length+1+r.length=p+(dW (rs.take (i+1))).length:=by rw[a7 hr];unfold dW;rw[List.flatMap_append,List.length_append];simp;omega
  rw[efl];refine⟨as.map V.ref,?_,?_,as++[x],fun b o e n=>?_,?_,?_,fun b hb=>?_,?_⟩
  ·rw[ai (Ne.symm nxD),ai nDa];exact hDl
  ·rw[List.length_map,hrl.len,List.length_take];exact Nat.lt_of_le_of_lt (show _<=2 by omega) (by decide)
  ·rw[ai (au e hD),ai (au e hxH),ai n];exact kp b o e n
  ·rw[ai (Ne.symm nDa),ai (Ne.symm nxa),ah]
  ·rw[a7 hr];refine f9.snoc (hrl.keep (P:=fun b=>b≠D/\b≠a) (fun b hb=>⟨(hfr b hb).2,fun e=>by have:=(hfr b hb).1;rw[e,ha]at this;cases this⟩) fun b o hp e=>?_) ?_
   ·rw[ai hp.1,ai (au e hx),ai hp.2];exact e
   ·rw[ai nxD,ah]
  ·rcases List.mem_append.mp hb with hb|hb
   ·exact hfr b hb
   ·rw[List.mem_singleton.mp hb];exact⟨hxH,nxD⟩
  ·rw[ah,List.map_append];rfl
 ·rintro H' ⟨as,kp,ha',hrl,hfr,hDl⟩;rw[List.take_length]at ha' hrl;exact q D as H' hD kp ha' hrl (fun b hb=>(hfr b hb).1) hDl
theorem Ho{te:TE}{σ:St}{H:Hp}{D:bN}{i:Nat}(h:te σ H fun v H1=>D.nx (σ.set i (some v)) H1):fV te (bw i) D σ H:=h
theorem bM.off{c:Cl}{H H':Hp}{T:Tb}{sl:List ae}{S dx fl a:Addr}(h:bM c H T sl S dx fl)(n:¬cx T a)(nS:a≠S)(nF:a≠fl)(k:∀b o,H b=some o->b≠a->H' b=some o):bM c H' T sl S dx fl:=⟨h.tab.apart n k,k _ _ h.obj (Ne.symm nS),k _ _ h.lst (Ne.symm nF),h.mem,h.len,h.most,h.nS,h.nF⟩
section
variable{P:Program}{w:World}{K:W.Frag}{mg:Str->Option Value}{base:Heap}{c:Cl}
set_option maxHeartbeats 8000000 in
theorem y8 {f:Addr} {fd:FuncData} (F:dB K "answers" "answers" pE f fd) (tx:dc K mg c) (kR:EF P w K mg base 1 c.R "Reader" ["self","calls"] (Ag c)) (kS:EF P w K mg base 7 c.S "Slots" ["self"] (qy c)) (mH:iV P w K mg base 1 c.R "has_more" ["self"] (zc K c)) (m1:iV P w K mg base 1 c.R "take_number" ["self"] (zf K c)) (m2:iV P w K mg base 1 c.R "take_numbers" ["self","how_many"] (y9 K c)) (m3:iV P w K mg base 2 c.R "take_row" ["self"] (zC K c)) (gA:gX P w K mg base 11 "answer" ["slots","call","numbers","rows"] (xU c)) :bj P w K mg base (cH P w) 12 f fd ["calls"] (md K c):=by
 refine F.ok0 uO (fun vs H Q E h=>?_) (fun cdv A outer s H vs Q E hr h=>?_)
 ·obtain⟨cl,l,gcs,rfl,_⟩:=h;rfl
 ·obtain⟨cl,l,gcs,rfl,hl,ncl,hpar,h400,q⟩:=h;have nd:=uO.nd;have hr1:=hr.mono (show 1<=11 by decide);have hr2:=hr.mono (show 2<=11 by decide);obtain⟨an,en,sn⟩:=tx.NUMBERS_OF_CALLS;obtain⟨ar,er,sr⟩:=tx.ROWS_OF_CALLS;refine⟨_,af (du 1 nd (El kR hr2 bq (aa (pv 0) aj))) (af (du 2 nd (GH kS (hr.mono (show 8<=11 by decide)) bq)) (af (du 3 nd (bb aj)) (af (kG PassesOwn.never (cY K (i4 mH tx.clR hr1 bq (pv 1))) (af (du 4 nd (i4 m1 tx.clR hr1 bq (pv 1))) (af (du 5 nd (cf m2 tx.clR hr1 bq (pv 1) (aa (cu K (EJ en) (pv 4) (fun _ _=>rfl)) aj))) (af (cy (i:=6) (own:=[("row",8)]) rfl nd rfl rfl (dr rfl rfl rfl rfl) (gV (by rfl) tx.range (aa (cu K (EJ er) (pv 4) (fun _ _=>rfl)) aj)) (bD rfl) (fun _ _ _ _ _=>jc 8 nd) (fun _ _ _ _ _=>c_) (fun _ _ _ _ _=>i4 m3 tx.clR hr2 bq (pv 1))) (af (du 7 nd (bS gA hr bq (aa (pv 2) (aa (pv 4) (aa (pv 5) (aa (pv 6) aj)))))) (af (aR (ng PySem.F.plainAttrs_list PySem.F.slot_list_append PySem.F.type_list_append mM (pv 3) (aa (aJ (gH K) (by rfl) tx.len PySem.boot_len (aa (pv 7) aj)) aj))) (ak (aR (ng PySem.F.plainAttrs_list PySem.F.slot_list_extend PySem.F.type_list_extend js (pv 3) (aa (pv 7) aj)))))))))) (ak (aN (pv 3)))))),?_⟩;refine sq (wm (vs:=[.ref cl]) (.one yv) fun R dR hR hdR hneR=>⟨R,dR,cl,rfl,ah,rfl,?_⟩);rw[dq];have s1:aB H (aI (aI H dR (.own R)) R (.ins c.R dR (rf cl 0))):=fun b o e=>by rw[ai (au e hR),ai (au e hdR)];exact e
  dsimp only;refine sq (wm (vs:=[]) .nil fun S dS hS hdS hneS=>⟨S,dS,rfl,ah,fun T fl H2 h2 ti2 kp2 all2 hfl2=>⟨rfl,?_⟩⟩);generalize hH1:aI (aI H dR (.own R)) R (.ins c.R dR (rf cl 0))=H1 at s1 hS hdS all2 hfl2 kp2;have hR1:H1 R=some (.ins c.R dR (rf cl 0)):=by rw[<-hH1];exact ah
  have fr1:∀{y:Addr},aI (aI H1 dS (.own S)) S (.ins c.S dS []) y=none->H1 y=none:=fun{y}h=>by
   by_cases e:y=S
   ·rw[e,ah]at h;cases h
   ·rw[ai e]at h;by_cases e':y=dS
    ·rw[e',ah]at h;cases h
    ·rwa [ai e']at h
  have s2:aB H1 H2:=aB.made hS hdS kp2;dsimp only;refine sq (qT .nil (Nat.zero_le _) fun lg hlg=>?_);have nRcl:cl≠R:=fun e=>ncl (e▸hR);have s3:aB H1 (aI H2 lg (.lst [])):=iZ s2 hlg;have notT:∀{b:Addr}{o:HO},H1 b=some o->¬cx T b:=fun e hT=>by have:=fr1 (all2 _ hT);rw[e]at this;cases this
  have notF:∀{b:Addr}{o:HO},H1 b=some o->b≠fl:=fun e hb=>by have:=fr1 hfl2;rw[<-hb,e]at this;cases this
  obtain⟨ocl,ecl⟩:∃o,H cl=some o:=by
   cases e:H cl with
   |none=>exact absurd e ncl
   |some o=>exact⟨o,rfl⟩
  dsimp only;refine sq ⟨fun m σ H'=>∃(T:Tb)(sl:List ae)(p:Nat)(gs:List Call)(pre:List Int)(v4 v5 v6 v7:Option V),gs.length=m/\kJ (l.drop p) gs/\pre++tF sl gs=tF (List.replicate 16 aM) gcs/\pre.length+38406*m<=38406*400/\σ=[some (.ref cl),some (.ref R),some (.ref S),some (.ref lg),v4,v5,v6,v7,none]/\bM c H' T sl S dS fl/\i9 T sl/\aB H H'/\H' R=some (.ins c.R dR (rf cl p))/\H' lg=some (.lst (pre.map V.int))/\¬cx T R/\R≠fl/\¬cx T lg/\lg≠fl/\(∀b,cx T b->H b=none)/\R≠S/\lg≠S/\lg≠R,⟨gcs.length,T,List.replicate 16 aM,0,gcs,[],none,none,none,none,rfl,by rw[List.drop_zero];exact hpar,rfl,by rw[List.length_nil];omega,rfl,h2.same (aW hlg),ti2,s1.trans s3,s3 _ _ hR1,ah,notT hR1,notF hR1,h2.tab.freshA hlg,(fun e=>by rw[e,h2.lst]at hlg;cases hlg),fun b hb=>s1.free (fr1 (all2 b hb)),(fun e=>by rw[e,hS]at hR1;cases hR1),(fun e=>by rw[e,h2.obj]at hlg;cases hlg),(fun e=>by rw[e,s2 _ _ hR1]at hlg;cases hlg)⟩,?_⟩;rintro m σ H' ⟨T,sl,p,gs,pre,v4,v5,v6,v7,hm,hp,hrun,hsz,rfl,h,ti,sH,hRd,hlgd,nTR,nFR,nTl,nFl,hTH,nRS,nlS,nlR⟩;have hflH:H fl=none:=s1.free (fr1 hfl2);have hsl:aV K H' cl (l.map V.int):=vR hl ncl fun o e=>sH _ o e;refine Yt.bl (K:=K) (aD.meth (ta:=aZ 1) (t:=ck) (vs:=[]) (C:=c.R) (m:="has_more") (sp:=zc K c) (E:=E0) yv hRd rfl .nil fun Q r=>⟨R,dR,cl,l,p,rfl,hRd,hsl,r⟩) _ ?_;generalize hrem:l.drop p=rem at hp;cases hp with
  |nil=>have:l.length<=p:=List.drop_eq_nil_iff.mp hrem;rw[decide_eq_false (show ¬p<l.length by omega)];rw[if_neg (by decide)];rw[tF,List.append_nil]at hrun;exact iG yv (q lg H' sH (by rw[<-hrun];exact hlgd))
  |@cons p0 ns rs gc rest gcs' hdec hp=>
   have hlt:p<l.length:=by apply Classical.byContradiction;intro hge;rw[List.drop_eq_nil_iff.mpr (by omega)]at hrem;cases hrem
   rw[decide_eq_true hlt,if_pos rfl];have hm:gcs'.length+1=m:=hm;obtain⟨k,ek,en1,er1⟩:=hdec.counts;have hv:l[p]?=some p0:=by have:=congrArg (fun z=>z[0]?) hrem;simpa using this
   have d1:l.drop (p+1)=ns++(dW rs++rest):=by rw[<-List.drop_drop,hrem];rfl
   have d2:l.drop (p+1+ns.length)=dW rs++rest:=by rw[<-List.drop_drop,d1,List.drop_left]
   have d3:l.drop (p+1+ns.length+(dW rs).length)=rest:=by rw[<-List.drop_drop,d2,List.drop_left]
   refine⟨fun σ' H''=>∃m',m'<m/\∃(T:Tb)(sl:List ae)(p:Nat)(gs:List Call)(pre:List Int)(v4 v5 v6 v7:Option V),gs.length=m'/\kJ (l.drop p) gs/\pre++tF sl gs=tF (List.replicate 16 aM) gcs/\pre.length+38406*m'<=38406*400/\σ'=[some (.ref cl),some (.ref R),some (.ref S),some (.ref lg),v4,v5,v6,v7,none]/\bM c H'' T sl S dS fl/\i9 T sl/\aB H H''/\H'' R=some (.ins c.R dR (rf cl p))/\H'' lg=some (.lst (pre.map V.int))/\¬cx T R/\R≠fl/\¬cx T lg/\lg≠fl/\(∀b,cx T b->H b=none)/\R≠S/\lg≠S/\lg≠R,fun _ _ h=>h,?_⟩;refine sq (j1 yv hRd rfl .nil ⟨R,dR,cl,l,p,p0,rfl,hRd,nRcl,hsl,hv,?_⟩);dsimp only;have ix:∀{a:Addr}{xs:List Int}{v:Int}{σ:St}{H':Hp},i6 K H' a (xs.map V.int)->xs[k]?=some v->σ[4]?=some (some (.int p0))->aD (fB (vY K) (tC (.ref a)) (aZ 4)) σ H' (.int v):=fun hs hx h4=>.ixT .c (yv h4) hs (oi ek (by rw[List.getElem?_map,hx];rfl));refine sq (j1 yv ah rfl (.one (ix (sn _) en1 rfl)) ⟨R,dR,cl,l,p+1,ns.length,rfl,ah,nRcl,vx nRcl hsl,fun ln hln=>?_⟩);rw[dq];have en2:(l.drop (p+1)).take ns.length=ns:=by rw[d1,List.take_left]
   rw[en2]
   have hlnH:H' ln=none/\ln≠R:=by
    constructor
    ·by_cases e:ln=R
     ·rw[e,ah]at hln;cases hln
     ·rwa [ai e]at hln
    ·intro e;rw[e,ah]at hln;cases hln
   generalize hHb:aI (aI H' R (.ins c.R dR (rf cl (p+1+ns.length)))) ln (.lst (ns.map V.int))=Hb;have kb:∀b o,H' b=some o->b≠R->Hb b=some o:=fun b o e n=>by rw[<-hHb,ai (au e hlnH.1),ai n];exact e
   have bR:Hb R=some (.ins c.R dR (rf cl (p+1+ns.length))):=by rw[<-hHb,ai (Ne.symm hlnH.2),ah]
   have bln:Hb ln=some (.lst (ns.map V.int)):=by rw[<-hHb];exact ah
   have bcl:Hb cl≠none:=fun n=>by rw[kb cl ocl (sH _ _ ecl) nRcl]at n;cases n
   have bsl:aV K Hb cl (l.map V.int):=vR hl ncl fun o e=>kb _ _ (sH _ o e) nRcl;dsimp only;refine sq (Ho (A4 tx (a:=R) (cl:=cl) (rs:=rs) (rest:=rest) (.one (ix (sr _) er1 rfl)) hdec.few rfl (by show 8<9;decide) bR nRcl bcl bsl d2 fun lr as Hc hlr kc cR crl cfr clr=>?_));have kc':∀b o,H' b=some o->b≠R->Hc b=some o:=fun b o e n=>kc b o (kb b o e n) n;have hc:bM c Hc T sl S dS fl:=h.off nTR nRS nFR kc';have sHc:aB H Hc:=fun b o e=>kc' b o (sH _ _ e) (au e hR);have clg:Hc lg=some (.lst (pre.map V.int)):=kc' _ _ hlgd nlR;dsimp only;refine sq (d9 (.cons yv (.cons yv (.cons yv (.one yv)))) ⟨S,dS,fl,ln,lr,T,sl,p0,ns,rs,as,gc,rfl,hdec,kc _ _ bln hlnH.2,clr,crl,hc,ti,fun T' He r fr h' ti' hr0 nT nf er'=>?_⟩);have allT':∀b,cx T' b->H b=none:=fun b hb=>(fr.all b hb).elim (hTH b) fun n=>sHc.free n;have nT':∀{b:Addr}{o:HO},Hc b=some o->¬cx T b->¬cx T' b:=fun e n hb=>(fr.all _ hb).elim n fun h=>by rw[h]at e;cases e
   have keepE:∀{b:Addr}{o:HO},Hc b=some o->¬cx T b->b≠fl->He b=some o:=fun e n n'=>fr.kp _ _ e fun h=>h.elim (fun h=>n (.inl h)) n';have elg:=keepE clg nTl nFl;have eR:=keepE cR nTR nFR;have sHe:aB H He:=fun b o e=>fr.kp b o (sHc _ _ e) fun h=>h.elim (fun h=>by have:=hTH b (.inl h);rw[e]at this;cases this) fun h=>by rw[h,hflH]at e;cases e
   have nrl:r≠lg:=fun e=>by rw[e,clg]at hr0;cases hr0
   have few:=Cr hc gc;have hlm:pre.length+38406*(gcs'.length+1)<=38406*400:=by rw[hm];exact hsz
   dsimp only;refine sq (sF yv elg (.one (.len (aD.one yv) (aV.of er'))) ⟨lg,_,_,rfl,rfl,elg,?_,?_⟩)
   ·rw[List.length_map];exact Nat.lt_of_le_of_lt (show pre.length<=38406*400 by omega) (by decide)
   dsimp only;refine sF yv ah (.one yv) ⟨lg,r,_,_,rfl,rfl,ah,by rw[ai nrl];exact er',?_,?_⟩
   ·rw[List.length_append,List.length_map,List.length_map];exact Nat.le_trans (show _<=38406*400 by simp only[List.length_cons,List.length_nil];omega) (by decide)
   ·rw[dq];have enew:pre.map V.int++[V.int (((aG sl gc).2.nums.map V.int).length:Nat)]++(aG sl gc).2.nums.map V.int=(pre++(((aG sl gc).2.nums.length:Int)::(aG sl gc).2.nums)).map V.int:=by rw[List.length_map,List.map_append,List.append_assoc];rfl
    rw[enew];refine⟨gcs'.length,by omega,T',(aG sl gc).1,p+1+ns.length+(dW rs).length,gcs',_,_,_,_,_,rfl,by rw[d3];exact hp,?_,?_,rfl,h'.off (nT' clg nTl) nlS nFl fun b o e n=>by rw[ai n];exact e,ti',fun b o e=>?_,?_,ah,nT' cR nTR,nFR,nT' clg nTl,nFl,allT',nRS,nlS,nlR⟩
    ·rw[<-hrun,tF,List.append_assoc,List.cons_append]
    ·rw[List.length_append,List.length_cons];omega
    ·have nb:b≠lg:=fun hb=>by have:=s1 _ _ e;rw[hb]at this;rw[s2 _ _ this]at hlg;cases hlg
     rw[ai nb];exact sHe _ _ e
    ·rw[ai (Ne.symm nlR)];exact eR
end
end Gp
namespace Gp
open Gth
open Games (Call)
theorem Cj{l x s:List Int}(h:PyFlat.row l=some (x,s)):l=(x.length:Int)::(x++s):=by
 cases l with
 |nil=>cases h
 |cons n r=>
  unfold PyFlat.row at h;dsimp only at h;by_cases c:0<=n/\n.toNat<=r.length
  ·rw[if_pos c]at h;cases h;rw[List.length_take,Nat.min_eq_left c.2,List.take_append_drop];congr 1;omega
  ·rw[if_neg c]at h;cases h
theorem uz:∀{k:Nat}{l t:List Int}{xs:List (List Int)},PyFlat.rows k l=some (xs,t)->l=dW xs++t/\xs.length=k
 |0,l,t,xs,h=>by cases h;exact⟨rfl,rfl⟩
 |k+1,l,t,xs,h=>by
  rw[PyFlat.rows]at h;cases h1:PyFlat.row l with
  |none=>rw[h1]at h;cases h
  |some y=>
   obtain⟨x,s⟩:=y;rw[h1]at h;dsimp only at h;cases h2:PyFlat.rows k s with
   |none=>rw[h2]at h;cases h
   |some z=>obtain⟨ys,u⟩:=z;rw[h2]at h;cases h;obtain⟨e1,e2⟩:=uz h2;refine⟨?_,by rw[List.length_cons,e2]⟩;rw[Cj h1,e1];unfold dW;rw[List.flatMap_cons];simp
theorem uy{p:Int}{r t:List Int}{cc:List (List Int)}(h:PyFlat.call PyWqacdl.shape (p::r)=some (cc,t)):∃n k ns xs,PyWqacdl.shape p=some (n,k)/\ns.length=n/\xs.length=k/\cc=(p::ns)::xs/\p::r=p::(ns++(dW xs++t)):=by
 unfold PyFlat.call at h;dsimp only at h;cases hs:PyWqacdl.shape p with
 |none=>rw[hs]at h;cases h
 |some nk=>
  obtain⟨n,k⟩:=nk;rw[hs]at h;dsimp only at h;by_cases c:r.length<n
  ·rw[if_pos c]at h;cases h
  ·rw[if_neg c]at h;cases h2:PyFlat.rows k (r.drop n)with
   |none=>rw[h2]at h;cases h
   |some z=>obtain⟨xs,u⟩:=z;rw[h2]at h;cases h;obtain⟨e1,e2⟩:=uz h2;exact⟨n,k,r.take n,xs,rfl,by rw[List.length_take];omega,e2,rfl,by rw[<-e1,List.take_append_drop]⟩
theorem Ew{l:List Int}(h:l.length=1):∃a,l=[a]:=by
 match l,h with
 |[a],_=>exact⟨a,rfl⟩
theorem Ce{α:Type}{l:List α}(h:l.length=2):∃a b,l=[a,b]:=by
 match l,h with
 |[a,b],_=>exact⟨a,b,rfl⟩
theorem F0{l:List Int}(h:l.length=3):∃a b c,l=[a,b,c]:=by
 match l,h with
 |[a,b,c],_=>exact⟨a,b,c,rfl⟩
theorem G8{l:List Int}(h:l.length=4):∃a b c d,l=[a,b,c,d]:=by
 match l,h with
 |[a,b,c,d],_=>exact⟨a,b,c,d,rfl⟩
theorem Gg{l:List (List Int)}(h:l.length=1):∃a,l=[a]:=by
 match l,h with
 |[a],_=>exact⟨a,rfl⟩
theorem sR{α:Type}{l:List α}(h:l.length=0):l=[]:=List.eq_nil_of_length_eq_zero h
theorem bU{z:Int}{b:Nat}(h:GamesNeutral.natural z b=true):∃n:Nat,z=(n:Int)/\Gw.nat? z=some n:=by unfold GamesNeutral.natural at h;rw[Bool.and_eq_true,decide_eq_true_iff,decide_eq_true_iff]at h;refine⟨z.toNat,by omega,?_⟩;unfold Gw.nat?;rw[if_pos h.1]
theorem zB{z:Int}(h:GamesNeutral.signed z 63=true):z.natAbs<2^64:=by unfold GamesNeutral.signed at h;rw[Bool.and_eq_true,decide_eq_true_iff,decide_eq_true_iff]at h;omega
theorem zY:∀{l:List Int}{n:Nat}{hi:Int},GamesNeutral.long l n 0 hi=true->∃ns:List Nat,l=ns.map (fun(n:Nat)=>(n:Int))/\Gw.row? l=some ns:=by
 intro l n hi h0;unfold GamesNeutral.long at h0;rw[Bool.and_eq_true]at h0;obtain⟨h9,h⟩:=h0;clear h9;unfold Gw.row?;induction l with
 |nil=>exact⟨[],rfl,rfl⟩
 |cons z l ih=>rw[List.all_cons,Bool.and_eq_true,Bool.and_eq_true,decide_eq_true_iff,decide_eq_true_iff]at h;obtain⟨ns,e1,e2⟩:=ih h.2;refine⟨z.toNat::ns,by rw[List.map_cons,<-e1];congr 1;omega,?_⟩;rw[List.mapM_cons,show Gw.nat? z=some z.toNat by unfold Gw.nat?;rw[if_pos h.1.1],e2];rfl
theorem BX{l:List Int}(h:GamesNeutral.long l 5000 0 255=true):∃b:Gw.Bytes,l=b.map (fun(u:UInt8)=>(u.toNat:Int))/\Gw.text? l=some b/\b.length<=5000:=by
 unfold GamesNeutral.long at h;rw[Bool.and_eq_true,decide_eq_true_iff]at h;obtain⟨h0,h⟩:=h;refine⟨l.map fun(n:Int)=>UInt8.ofNat n.toNat,?_,?_,by rw[List.length_map];exact h0⟩
 ·rw[List.map_map];refine((List.map_congr_left fun z hz=>?_).trans (List.map_id _)).symm;have:=List.all_eq_true.mp h z hz;rw[Bool.and_eq_true,decide_eq_true_iff,decide_eq_true_iff]at this;show((UInt8.ofNat z.toNat).toNat:Int)=z;rw[UInt8.toNat_ofNat'];omega
 ·unfold Gw.text?;rw[if_pos];unfold NeutralIO.bytes;exact h
theorem FD{p:Int}{ns:List Int}{xs:List (List Int)}{n k:Nat}(hs:PyWqacdl.shape p=some (n,k))(h1:ns.length=n)(h2:xs.length=k)(ha:GamesNeutral.asked1 ((p::ns)::xs)=true):∃gc,tV p ns xs gc/\GamesNeutral.callOf ((p::ns)::xs)=some gc:=by
 unfold PyWqacdl.shape at hs;by_cases c0:p=0
 ·subst c0;simp only[Int.reduceEq,if_true,if_false,Option.some.injEq,Prod.mk.injEq]at hs;obtain⟨rfl,rfl⟩:=hs;obtain⟨a,b,c,rfl⟩:=F0 h1;obtain rfl:=sR h2;replace ha:(_&&_)=true:=ha;simp only[Bool.and_eq_true]at ha;obtain⟨a,rfl,ea⟩:=bU ha.1;obtain⟨c,rfl,ec⟩:=bU ha.2.2;exact⟨.number a b c,.number a c b (zB ha.2.1),by show(match Gw.nat? (a:Int),Gw.nat? (c:Int)with|some x,some y=>some (Games.Call.number x b y)|_,_=>none)=_;rw[ea,ec]⟩
 by_cases c1:p=1
 ·subst c1;simp only[Int.reduceEq,if_true,if_false,Option.some.injEq,Prod.mk.injEq]at hs;obtain⟨rfl,rfl⟩:=hs;obtain⟨a,b,rfl⟩:=Ce h1;obtain rfl:=sR h2;replace ha:(_&&_)=true:=ha;simp only[Bool.and_eq_true]at ha;obtain⟨a,rfl,ea⟩:=bU ha.1;obtain⟨b,rfl,eb⟩:=bU ha.2;exact⟨.heap a b,.heap a b,by show GamesNeutral.two? (a:Int) (b:Int) Games.Call.heap=_;simp only[GamesNeutral.two?,ea,eb]⟩
 by_cases c2:p=2
 ·subst c2;simp only[Int.reduceEq,if_true,if_false,Option.some.injEq,Prod.mk.injEq]at hs;obtain⟨rfl,rfl⟩:=hs;obtain⟨a,rfl⟩:=Ew h1;obtain⟨x,y,rfl⟩:=Ce h2;replace ha:(_&&_)=true:=ha;simp only[Bool.and_eq_true]at ha;obtain⟨a,rfl,ea⟩:=bU ha.1;obtain⟨l,rfl,el⟩:=zY ha.2.1;obtain⟨r,rfl,er⟩:=zY ha.2.2;exact⟨.make a l r,.make a l r,by show(match Gw.nat? _,Gw.row? _,Gw.row? _ with|some a,some x,some y=>some (Games.Call.make a x y)|_,_,_=>none)=_;rw[ea,el,er]⟩
 by_cases c3:p=3
 ·subst c3;simp only[Int.reduceEq,if_true,if_false,Option.some.injEq,Prod.mk.injEq]at hs;obtain⟨rfl,rfl⟩:=hs;obtain⟨a,b,rfl⟩:=Ce h1;obtain rfl:=sR h2;replace ha:(_&&_)=true:=ha;simp only[Bool.and_eq_true]at ha;obtain⟨a,rfl,ea⟩:=bU ha.1;obtain⟨b,rfl,eb⟩:=bU ha.2;exact⟨.minus a b,.minus a b,by show GamesNeutral.two? (a:Int) (b:Int) Games.Call.minus=_;simp only[GamesNeutral.two?,ea,eb]⟩
 by_cases c4:p=4
 ·subst c4;simp only[Int.reduceEq,if_true,if_false,Option.some.injEq,Prod.mk.injEq]at hs;obtain⟨rfl,rfl⟩:=hs;obtain⟨a,b,c,rfl⟩:=F0 h1;obtain rfl:=sR h2;replace ha:(_&&_)=true:=ha;simp only[Bool.and_eq_true]at ha;obtain⟨a,rfl,ea⟩:=bU ha.1;obtain⟨b,rfl,eb⟩:=bU ha.2.1;obtain⟨c,rfl,ec⟩:=bU ha.2.2;exact⟨.sum a b c,.sum a b c,by show(match Gw.nat? (a:Int),Gw.nat? (b:Int),Gw.nat? (c:Int)with|some x,some y,some z=>some (Games.Call.sum x y z)|_,_,_=>none)=_;rw[ea,eb,ec]⟩
 by_cases c5:p=5
 ·subst c5;simp only[Int.reduceEq,if_true,if_false,Option.some.injEq,Prod.mk.injEq]at hs;obtain⟨rfl,rfl⟩:=hs;obtain⟨a,b,c,rfl⟩:=F0 h1;obtain rfl:=sR h2;replace ha:(_&&_)=true:=ha;simp only[Bool.and_eq_true]at ha;obtain⟨a,rfl,ea⟩:=bU ha.1;obtain⟨b,rfl,eb⟩:=bU ha.2.1;exact⟨.times a b c,.times a b c,by show(match Gw.nat? (a:Int),Gw.nat? (b:Int)with|some x,some y=>some (Games.Call.times x y c)|_,_=>none)=_;rw[ea,eb]⟩
 by_cases c6:p=6
 ·subst c6;simp only[Int.reduceEq,if_true,if_false,Option.some.injEq,Prod.mk.injEq]at hs;obtain⟨rfl,rfl⟩:=hs;obtain⟨a,b,c,d,rfl⟩:=G8 h1;obtain rfl:=sR h2;replace ha:(_&&_)=true:=ha;simp only[Bool.and_eq_true]at ha;obtain⟨a,rfl,ea⟩:=bU ha.1;obtain⟨b,rfl,eb⟩:=bU ha.2.1;obtain⟨c,rfl,ec⟩:=bU ha.2.2.1;obtain⟨d,rfl,ed⟩:=bU ha.2.2.2;exact⟨.option a b c d,.option a b c d,by show(match Gw.nat? (a:Int),Gw.nat? (b:Int),Gw.nat? (c:Int),Gw.nat? (d:Int)with|some x,some y,some z,some w=>some (Games.Call.option x y z w)|_,_,_,_=>none)=_;rw[ea,eb,ec,ed]⟩
 by_cases c7:p=7
 ·subst c7;simp only[Int.reduceEq,if_true,if_false,Option.some.injEq,Prod.mk.injEq]at hs;obtain⟨rfl,rfl⟩:=hs;obtain⟨a,b,rfl⟩:=Ce h1;obtain rfl:=sR h2;replace ha:(_&&_)=true:=ha;simp only[Bool.and_eq_true]at ha;obtain⟨a,rfl,ea⟩:=bU ha.1;obtain⟨b,rfl,eb⟩:=bU ha.2;exact⟨.order a b,.order a b,by show GamesNeutral.two? (a:Int) (b:Int) Games.Call.order=_;simp only[GamesNeutral.two?,ea,eb]⟩
 by_cases c8:p=8
 ·subst c8;simp only[Int.reduceEq,if_true,if_false,Option.some.injEq,Prod.mk.injEq]at hs;obtain⟨rfl,rfl⟩:=hs;obtain⟨a,rfl⟩:=Ew h1;obtain rfl:=sR h2;replace ha:GamesNeutral.natural _ 63=true:=ha;obtain⟨a,rfl,ea⟩:=bU ha;exact⟨.shape a,.shape a,by show(Gw.nat? (a:Int)).map Games.Call.shape=_;rw[ea];rfl⟩
 by_cases c9:p=9
 ·subst c9;simp only[Int.reduceEq,if_true,if_false,Option.some.injEq,Prod.mk.injEq]at hs;obtain⟨rfl,rfl⟩:=hs;obtain rfl:=sR h1;obtain rfl:=sR h2;exact⟨.room,.room,rfl⟩
 by_cases c10:p=10
 ·subst c10;simp only[Int.reduceEq,if_true,if_false,Option.some.injEq,Prod.mk.injEq]at hs;obtain⟨rfl,rfl⟩:=hs;obtain⟨a,rfl⟩:=Ew h1;obtain rfl:=sR h2;replace ha:GamesNeutral.natural _ 63=true:=ha;obtain⟨a,rfl,ea⟩:=bU ha;exact⟨.write a,.write a,by show(Gw.nat? (a:Int)).map Games.Call.write=_;rw[ea];rfl⟩
 by_cases c11:p=11
 ·subst c11;simp only[Int.reduceEq,if_true,if_false,Option.some.injEq,Prod.mk.injEq]at hs;obtain⟨rfl,rfl⟩:=hs;obtain⟨a,rfl⟩:=Ew h1;obtain⟨x,rfl⟩:=Gg h2;replace ha:(_&&_)=true:=ha;simp only[Bool.and_eq_true]at ha;obtain⟨a,rfl,ea⟩:=bU ha.1;obtain⟨t,rfl,et,hl⟩:=BX ha.2;exact⟨.read a t,.read a t hl,by show(match Gw.nat? _,Gw.text? _ with|some x,some y=>some (Games.Call.read x y)|_,_=>none)=_;rw[ea,et]⟩
 simp only[c0,c1,c2,c3,c4,c5,c6,c7,c8,c9,c10,c11,if_false]at hs;cases hs
theorem B7{p:Int}{ns:List Int}{xs:List (List Int)}{n k:Nat}(hs:PyWqacdl.shape p=some (n,k))(h1:ns.length=n)(h2:xs.length=k):PyWqacdl.whole ((p::ns)::xs)=(p::ns)::xs:=by
 unfold PyWqacdl.shape at hs;by_cases z:p=0\/p=1\/p=2\/p=3\/p=4\/p=5\/p=6\/p=7\/p=8\/p=9\/p=10\/p=11
 ·rcases z with rfl|rfl|rfl|rfl|rfl|rfl|rfl|rfl|rfl|rfl|rfl|rfl <;> (simp only[Int.reduceEq,if_true,if_false,Option.some.injEq,Prod.mk.injEq]at hs;obtain⟨rfl,rfl⟩:=hs;rcases ns with _|⟨a,_|⟨b,_|⟨c,_|⟨d,_|_⟩⟩⟩⟩<;>first|(cases h1;done)|(rcases xs with _|⟨x,_|⟨y,_|_⟩⟩<;>first|(cases h2;done)|rfl))
 ·simp only[not_or]at z;simp only[z,if_false]at hs;cases hs
theorem uW:∀{f:Nat}{l:List Int}{cs:List (List (List Int))},PyFlat.calls PyWqacdl.shape f l=some cs->cs.map PyWqacdl.whole=cs
 |f,[],cs,h=>by
  have:cs=[]:=by cases f<;>(rw[PyFlat.calls]at h;cases h;rfl)
  subst this;rfl
 |0,_::_,_,h=>by cases h
 |f+1,p::r,cs,h=>by
  rw[PyFlat.calls]at h;cases h1:PyFlat.call PyWqacdl.shape (p::r)with
  |none=>rw[h1]at h;cases h
  |some y=>
   obtain⟨cc,t⟩:=y;rw[h1]at h;dsimp only at h;cases h2:PyFlat.calls PyWqacdl.shape f t with
   |none=>rw[h2]at h;cases h
   |some cs'=>rw[h2]at h;cases h;obtain⟨n,k,ns,xs,e1,e2,e3,rfl,e5⟩:=uy h1;rw[List.map_cons,B7 e1 e2 e3,uW h2]
theorem uI:∀{f:Nat}{l:List Int}{cs:List (List (List Int))},PyFlat.calls PyWqacdl.shape f l=some cs->(∀cc∈cs,GamesNeutral.asked1 cc=true)->∃gcs,kJ l gcs/\cs.map GamesNeutral.callOf=gcs.map some
 |f,[],cs,h,_=>by
  have:cs=[]:=by cases f<;>(rw[PyFlat.calls]at h;cases h;rfl)
  subst this;exact⟨[],.nil,rfl⟩
 |0,_::_,_,h,_=>by cases h
 |f+1,p::r,cs,h,ha=>by
  rw[PyFlat.calls]at h;cases h1:PyFlat.call PyWqacdl.shape (p::r)with
  |none=>rw[h1]at h;cases h
  |some y=>
   obtain⟨cc,t⟩:=y;rw[h1]at h;dsimp only at h;cases h2:PyFlat.calls PyWqacdl.shape f t with
   |none=>rw[h2]at h;cases h
   |some cs'=>rw[h2]at h;cases h;obtain⟨n,k,ns,xs,e1,e2,e3,rfl,e5⟩:=uy h1;obtain⟨gc,hd,hc⟩:=FD e1 e2 e3 (ha _ List.mem_cons_self);obtain⟨gcs,hp,hm⟩:=uI h2 fun c hc=>ha c (List.mem_cons_of_mem _ hc);refine⟨gc::gcs,?_,by rw[List.map_cons,List.map_cons,hc,hm]⟩;rw[e5];exact .cons hd hp
theorem rT:∀{cs:List (List (List Int))}{gcs:List Call}{st:Games.State}{sl:List ae},Ff st sl->cs.map GamesNeutral.callOf=gcs.map some->PyFlat.told (PyFlat.played GamesNeutral.step st cs)=tF sl gcs
 |[],[],_,_,_,_=>rfl
 |[],_::_,_,_,_,h=>by cases h
 |_::_,[],_,_,_,h=>by cases h
 |cc::cs,gc::gcs,st,sl,hs,h=>by
  rw[List.map_cons,List.map_cons]at h;injection h with h1 h2
  have e:GamesNeutral.step st cc=((Games.step st gc).1,(Games.step st gc).2.nums):=by unfold GamesNeutral.step;rw[h1]
  obtain⟨k1,k2⟩:=En hs gc;rw[PyFlat.played,tF,<-rT k1 h2,e,k2];unfold PyFlat.told;rw[List.flatMap_cons];rfl
theorem HP{l:List Int}(h:PyWqacdl.answers_asked l=true):∃gcs,kJ l gcs/\gcs.length<=400/\PyWqacdl.answers l=tF (List.replicate 16 aM) gcs:=by
 unfold PyWqacdl.answers_asked at h;unfold PyWqacdl.answers;unfold PyWqacdl.calls at h⊢;cases hc:PyFlat.calls PyWqacdl.shape l.length l with
 |none=>rw[hc]at h;cases h
 |some cs=>rw[hc]at h;have ew:=uW hc;dsimp only at h⊢;rw[ew]at h⊢;rw[Bool.and_eq_true]at h;unfold GamesNeutral.asked at h;rw[Bool.and_eq_true,List.all_eq_true]at h;obtain⟨gcs,hp,hm⟩:=uI hc h.2.1;refine⟨gcs,hp,?_,rT B2 hm⟩;have:=congrArg List.length hm;rw[List.length_map,List.length_map]at this;rw[<-this];exact of_decide_eq_true h.1
end Gp
namespace Gp
open PySem PySem.Spec L2 Gth
open PyProof.Rows hiding St
def GF(K:W.Frag)(mg:Str->Option Value)(x:Str)(st:Stmt):Prop:=∃f fd,mg x=some (.ref f)/\dB K x x st f fd
def MF(K:W.Frag)(C:Addr)(m q:Str)(st:Stmt):Prop:=∃f fd,Dr K C m f/\dB K m q st f fd
def KF (K:W.Frag) (mg:Str->Option Value) (C:Addr) (x q:Str) (st:Stmt):Prop:=∃f fd,mg x=some (.ref C)/\Mk K C f/\dB K "__init__" q st f fd
section
variable{K:W.Frag}{mg:Str->Option Value}{h:Heap}{x q:Str}{st:Stmt}{f C:Addr}{oc kV doc pm cdv ct:Value}{od an:Option Addr}{osl:Array (Option Value)}
theorem gf(X:K.In h)(G:h.Ns mainGlobals mg)(a:W.nsIn K mainGlobals x=some (some (.ref f)))(l:K.lookup f=some ⟨oc,od,.func (W.fnOf x x (fQ st) (d_ st) (aw st) .none kV doc pm an cdv ct),osl⟩) (c:W.codeIn K cdv x=true) (k:W.keepIn K (.ref f)=true):GF K mg x st:=⟨f,_,W.mg_of X G a,yL l c k⟩
theorem mf(a:W.findIn K (.ref C) x=some (some (.ref f)))(i:W.isFn K (.ref f)=true)(l:K.lookup f=some ⟨oc,od,.func (W.fnOf x q (fQ st) (d_ st) (aw st) .none kV doc pm an cdv ct),osl⟩) (c:W.codeIn K cdv q=true) (k:W.keepIn K (.ref f)=true):MF K C x q st:=⟨f,_,⟨a,i,k⟩,yL l c k⟩
theorem kf (X:K.In h) (G:h.Ns mainGlobals mg) (n:W.nsIn K mainGlobals x=some (some (.ref C))) (m:W.makesIn K C=true) (e:W.keepIn K (.ref C)=true) (a:W.findIn K (.ref C) "__init__"=some (some (.ref f))) (i:W.isFn K (.ref f)=true) (l:K.lookup f=some ⟨oc,od,.func (W.fnOf "__init__" q (fQ st) (d_ st) (aw st) .none kV doc pm an cdv ct),osl⟩) (c:W.codeIn K cdv q=true) (k:W.keepIn K (.ref f)=true):KF K mg C x q st:=⟨f,_,W.mg_of X G n,⟨m,a,i,e⟩,yL l c k⟩
theorem gi{i:Int}{t}(X:K.In h)(G:h.Ns mainGlobals mg)(a:W.nsIn K mainGlobals x=some (some (.int i t))):fw mg x i:=⟨_,W.mg_of X G a,t,rfl⟩
theorem gt {xs:List Int} {its:Array Value} {n:Nat} (X:K.In h) (G:h.Ns mainGlobals mg) (a:W.nsIn K mainGlobals x=some (some (.ref f))) (l:K.lookup f=some ⟨.type "tuple",od,.seq its n,osl⟩) (z:its.size<=12) (v:aQ (xs.map V.int) its.toList):ET K mg x xs:=⟨f,W.mg_of X G a,fun H=>.inr ⟨_,its,n,l,rfl,rfl,Nat.le_trans z (by decide),v⟩⟩
theorem gx (X:K.In h) (G:h.Ns mainGlobals mg) (a:W.nsIn K mainGlobals x=some (some (.ref C))) (e:W.excIn K C [.type "Exception",.type "BaseException",.type "object"] "Exception.__new__"=true):F6 K mg x C:=⟨W.mg_of X G a,e⟩
variable{k:Nat}{ps:List Str}{sp:Sp}
theorem GF.fn(P:Program)(w:World)(base:Heap)(g:GF K mg x st)(ok:∀f fd,dB K x x st f fd->bj P w K mg base (cH P w) k f fd ps sp) (b:∀(kV doc pm:Value)(an:Option Addr)(cdv ct:Value)(us:List Value),us.length=ps.length->bindArgs (W.fnOf x x (fQ st) (d_ st) (aw st) .none kV doc pm an cdv ct) ⟨us,[]⟩=pure (ps.zip us)):gX P w K mg base k x ps sp:=by obtain⟨f,fd,m,F⟩:=g;exact⟨f,fd,m,F.kp,F.binds b,ok f fd F⟩
theorem MF.fn(P:Program)(w:World)(base:Heap)(g:MF K C x q st)(ok:∀f fd,dB K x q st f fd->bj P w K mg base (cH P w) k f fd ps sp) (b:∀(kV doc pm:Value)(an:Option Addr)(cdv ct:Value)(us:List Value),us.length=ps.length->bindArgs (W.fnOf x q (fQ st) (d_ st) (aw st) .none kV doc pm an cdv ct) ⟨us,[]⟩=pure (ps.zip us)):iV P w K mg base k C x ps sp:=by obtain⟨f,fd,m,F⟩:=g;exact⟨f,fd,m,F.binds b,ok f fd F⟩
theorem KF.fn (P:Program) (w:World) (base:Heap) (g:KF K mg C x q st) (ok:∀f fd,dB K "__init__" q st f fd->bj P w K mg base (cH P w) k f fd ps sp) (b:∀(kV doc pm:Value) (an:Option Addr) (cdv ct:Value) (us:List Value),us.length=ps.length->bindArgs (W.fnOf "__init__" q (fQ st) (d_ st) (aw st) .none kV doc pm an cdv ct) ⟨us,[]⟩=pure (ps.zip us)):EF P w K mg base k C x ps sp:=by obtain⟨f,fd,m,n,F⟩:=g;exact⟨f,fd,m,n,F.binds b,ok f fd F⟩
end
section
variable{α:Type}{p:List α->Prop}
theorem b1(h:∀a,p [a]):∀us:List α,us.length=1->p us|[a],_=>h a
theorem b2(h:∀a b,p [a,b]):∀us:List α,us.length=2->p us|[a,b],_=>h a b
theorem b3(h:∀a b c,p [a,b,c]):∀us:List α,us.length=3->p us|[a,b,c],_=>h a b c
theorem b4(h:∀a b c d,p [a,b,c,d]):∀us:List α,us.length=4->p us|[a,b,c,d],_=>h a b c d
theorem b5(h:∀a b c d e,p [a,b,c,d,e]):∀us:List α,us.length=5->p us|[a,b,c,d,e],_=>h a b c d e
end
theorem EU {P:Program} {w:World} {K:W.Frag} {mg:Str->Option Value} {fa cP cT cS cR oP oR nG nR:Addr} (hfa:mg "answers"=some (.ref fa)) (h0:KF K mg cR "Reader" "Reader.__init__" ja) (h1:KF K mg cT "Table" "Table.__init__" jH) (h4:KF K mg cP "Part" "Part.__init__" lq) (h12:KF K mg cS "Slots" "Slots.__init__" jW) (tx:dc K mg ⟨cP,cT,cS,cR,oP,oR,nG,nR⟩) (cn:((fU ⟨cP,cT,cS,cR,oP,oR,nG,nR⟩).map (·.1)).Nodup) (h2:GF K mg "bits_of" qa) (h7:GF K mg "order_key" lJ) (h11:GF K mg "zero_form" lD) (h17:GF K mg "check_slots" iW) (h18:GF K mg "is_at_most" jK) (h23:GF K mg "parts_in_turn" gk) (h24:GF K mg "two_bytes" kW) (h25:GF K mg "bytes_of" n6) (h27:GF K mg "swapped_form" iC) (h28:GF K mg "number_form" iX) (h30:GF K mg "heap_form" lG) (h32:GF K mg "check_row" kI) (h34:GF K mg "minus_form" jQ) (h36:GF K mg "sum_options" iY) (h37:GF K mg "sum_form" nH) (h39:GF K mg "inside_of" kM) (h44:GF K mg "check_side" jz) (h46:GF K mg "numbers_of" jM) (h47:GF K mg "rows_of" qb) (h48:GF K mg "all_done" n8) (h49:GF K mg "options_first" gw) (h50:GF K mg "form_of_rows" iA) (h51:GF K mg "form_of_text" iy) (h53:GF K mg "put_game" nO) (h54:GF K mg "carry_out" km) (h56:GF K mg "answer" rE) (h3:MF K cT "least_row" "Table.least_row" fq) (h5:MF K cT "free_bit" "Table.free_bit" fC) (h6:MF K cP "option_count" "Part.option_count" dY) (h8:MF K cT "insert_in_order" "Table.insert_in_order" cI) (h9:MF K cT "add_part" "Table.add_part" fM) (h10:MF K cT "form_of" "Table.form_of" gp) (h13:MF K cR "has_more" "Reader.has_more" eW) (h14:MF K cR "take_number" "Reader.take_number" dE) (h15:MF K cR "take_numbers" "Reader.take_numbers" dm) (h16:MF K cR "take_row" "Reader.take_row" fh) (h19:MF K cS "tell_order" "Slots.tell_order" eI) (h20:MF K cT "parts_of" "Table.parts_of" fL) (h21:MF K cS "tell_shape" "Slots.tell_shape" ei) (h22:MF K cS "tell_room" "Slots.tell_room" fe) (h26:MF K cS "tell_bytes" "Slots.tell_bytes" eJ) (h29:MF K cS "put_number" "Slots.put_number" eE) (h31:MF K cS "put_heap" "Slots.put_heap" fN) (h33:MF K cS "put_made" "Slots.put_made" fG) (h35:MF K cS "put_minus" "Slots.put_minus" eV) (h38:MF K cS "put_sum" "Slots.put_sum" gu) (h40:MF K cT "sums_within" "Table.sums_within" dX) (h41:MF K cT "keep_only" "Table.keep_only" eT) (h42:MF K cS "times_form" "Slots.times_form" eh) (h43:MF K cS "put_times" "Slots.put_times" fu) (h45:MF K cS "put_option" "Slots.put_option" eA) (h52:MF K cS "put_read" "Slots.put_read" fD) (h55:MF K cS "tidy" "Slots.tidy" j0) (h57:GF K mg "answers" pE) :∃fd:FuncData,(∀(s:Shared) (us:List Value),us.length=(["calls"]:List Str).length->BindsTo s fd ⟨us,[]⟩ ((["calls"]:List Str).zip us))/\∀base:Heap,K.In base->base.Ns mainGlobals mg->bj P w K mg base (cH P w) 12 fa fd ["calls"] (md K ⟨0,0,0,0,0,0,0,0⟩):=by
 obtain⟨f,fd,m,F⟩:=h57;cases hfa.symm.trans m;refine⟨fd,fun s us hu=>?_,fun base _ _=>?_⟩
 ·obtain⟨oc,od,kV,doc,pm,an,cdv,ct,osl,rfl,lk,hcd⟩:=F.ex;exact match us,hu with|[_],_=>.of_eq rfl
 have g0:=h0.fn P w base (fun _ _ F=>sI F tx) fun _ _ _ _ _ _=>b2 fun _ _=>rfl;have g1:=h1.fn P w base (fun _ _ F=>uc F tx) fun _ _ _ _ _ _=>b2 fun _ _=>rfl;have g2:=h2.fn P w base (fun _ _ F=>zJ F tx) fun _ _ _ _ _ _=>b1 fun _=>rfl;have g3:=h3.fn P w base (fun _ _ F=>vB F tx g2) fun _ _ _ _ _ _=>b4 fun _ _ _ _=>rfl;have g4:=h4.fn P w base (fun _ _ F=>vk F tx g2) fun _ _ _ _ _ _=>b4 fun _ _ _ _=>rfl;have g5:=h5.fn P w base (fun _ _ F=>xy F tx) fun _ _ _ _ _ _=>b1 fun _=>rfl;have g6:=h6.fn P w base (fun _ _ F=>pG F tx) fun _ _ _ _ _ _=>b1 fun _=>rfl;have g7:=h7.fn P w base (fun _ _ F=>v_ F tx) fun _ _ _ _ _ _=>b2 fun _ _=>rfl;have g8:=h8.fn P w base (fun _ _ F=>BD F tx g7) fun _ _ _ _ _ _=>b2 fun _ _=>rfl;have g9:=h9.fn P w base (fun _ _ F=>yy F tx g4 g5 g6 g8) fun _ _ _ _ _ _=>b3 fun _ _ _=>rfl;have g10:=h10.fn P w base (fun _ _ F=>zo F tx g3 g9) fun _ _ _ _ _ _=>b3 fun _ _ _=>rfl;have g11:=h11.fn P w base (fun _ _ F=>vC F tx g10) fun _ _ _ _ _ _=>b1 fun _=>rfl;have g12:=h12.fn P w base (fun _ _ F=>tQ F tx g1 g11) fun _ _ _ _ _ _=>b1 fun _=>rfl;have g13:=h13.fn P w base (fun _ _ F=>xB F tx) fun _ _ _ _ _ _=>b1 fun _=>rfl;have g14:=h14.fn P w base (fun _ _ F=>sS F tx) fun _ _ _ _ _ _=>b1 fun _=>rfl;have g15:=h15.fn P w base (fun _ _ F=>qK F tx) fun _ _ _ _ _ _=>b2 fun _ _=>rfl;have g16:=h16.fn P w base (fun _ _ F=>yw F tx g14 g15) fun _ _ _ _ _ _=>b1 fun _=>rfl;have g17:=h17.fn P w base (fun _ _ F=>rK F tx) fun _ _ _ _ _ _=>b1 fun _=>rfl;have g18:=h18.fn P w base (fun _ _ F=>tM F tx) fun _ _ _ _ _ _=>b2 fun _ _=>rfl;have g19:=h19.fn P w base (fun _ _ F=>tO F tx g17 g18) fun _ _ _ _ _ _=>b3 fun _ _ _=>rfl;have g20:=h20.fn P w base (fun _ _ F=>yf F tx) fun _ _ _ _ _ _=>b2 fun _ _=>rfl;have g21:=h21.fn P w base (fun _ _ F=>tW F tx g17 g20 g6) fun _ _ _ _ _ _=>b2 fun _ _=>rfl;have g22:=h22.fn P w base (fun _ _ F=>vm F tx) fun _ _ _ _ _ _=>b1 fun _=>rfl;have g23:=h23.fn P w base (fun _ _ F=>pT F tx) fun _ _ _ _ _ _=>b1 fun _=>rfl;have g24:=h24.fn P w base (fun _ _ F=>wt F tx) fun _ _ _ _ _ _=>b1 fun _=>rfl;have g25:=h25.fn P w base (fun _ _ F=>xl F tx g23 g24) fun _ _ _ _ _ _=>b1 fun _=>rfl;have g26:=h26.fn P w base (fun _ _ F=>t9 F tx g17 g25) fun _ _ _ _ _ _=>b2 fun _ _=>rfl;have g27:=h27.fn P w base (fun _ _ F=>qQ F tx g10) fun _ _ _ _ _ _=>b4 fun _ _ _ _=>rfl;have g28:=h28.fn P w base (fun _ _ F=>tj F tx g11 g27) fun _ _ _ _ _ _=>b3 fun _ _ _=>rfl;have g29:=h29.fn P w base (fun _ _ F=>t8 F tx g17 g28) fun _ _ _ _ _ _=>b4 fun _ _ _ _=>rfl;have g30:=h30.fn P w base (fun _ _ F=>vG F tx g11 g10) fun _ _ _ _ _ _=>b2 fun _ _=>rfl;have g31:=h31.fn P w base (fun _ _ F=>yp F tx g17 g30) fun _ _ _ _ _ _=>b3 fun _ _ _=>rfl;have g32:=h32.fn P w base (fun _ _ F=>u6 F tx g17) fun _ _ _ _ _ _=>b1 fun _=>rfl;have g33:=h33.fn P w base (fun _ _ F=>xC F tx g17 g32 g10) fun _ _ _ _ _ _=>b4 fun _ _ _ _=>rfl;have g34:=h34.fn P w base (fun _ _ F=>tU F tx g20 g10) fun _ _ _ _ _ _=>b2 fun _ _=>rfl;have g35:=h35.fn P w base (fun _ _ F=>wj F tx g17 g34) fun _ _ _ _ _ _=>b3 fun _ _ _=>rfl;have g36:=h36.fn P w base (fun _ _ F=>rO F tx) fun _ _ _ _ _ _=>b4 fun _ _ _ _=>rfl;have g37:=h37.fn P w base (fun _ _ F=>xb F tx g20 g36 g10) fun _ _ _ _ _ _=>b3 fun _ _ _=>rfl;have g38:=h38.fn P w base (fun _ _ F=>yQ F tx g17 g37) fun _ _ _ _ _ _=>b4 fun _ _ _ _=>rfl;have g39:=h39.fn P w base (fun _ _ F=>u7 F tx) fun _ _ _ _ _ _=>b1 fun _=>rfl;have g40:=h40.fn P w base (fun _ _ F=>sT F tx) fun _ _ _ _ _ _=>b2 fun _ _=>rfl;have g41:=h41.fn P w base (fun _ _ F=>vq F tx g6 g40) fun _ _ _ _ _ _=>b2 fun _ _=>rfl;have g42:=h42.fn P w base (fun _ _ F=>tZ F tx g11 g34 g37 g39 g41) fun _ _ _ _ _ _=>b3 fun _ _ _=>rfl;have g43:=h43.fn P w base (fun _ _ F=>vL F tx g17 g42) fun _ _ _ _ _ _=>b4 fun _ _ _ _=>rfl;have g44:=h44.fn P w base (fun _ _ F=>tT F tx) fun _ _ _ _ _ _=>b1 fun _=>rfl;have g45:=h45.fn P w base (fun _ _ F=>tN F tx g17 g44) fun _ _ _ _ _ _=>b5 fun _ _ _ _ _=>rfl;have g46:=h46.fn P w base (fun _ _ F=>tX F tx) fun _ _ _ _ _ _=>b1 fun _=>rfl;have g47:=h47.fn P w base (fun _ _ F=>y4 F tx g46) fun _ _ _ _ _ _=>b1 fun _=>rfl;have g48:=h48.fn P w base (fun _ _ F=>xQ F tx) fun _ _ _ _ _ _=>b2 fun _ _=>rfl;have g49:=h49.fn P w base (fun _ _ F=>p7 F tx g48) fun _ _ _ _ _ _=>b1 fun _=>rfl;have g50:=h50.fn P w base (fun _ _ F=>qO F tx g10) fun _ _ _ _ _ _=>b3 fun _ _ _=>rfl;have g51:=h51.fn P w base (fun _ _ F=>qR F tx g47 g49 g1 g25 g50) fun _ _ _ _ _ _=>b2 fun _ _=>rfl;have g52:=h52.fn P w base (fun _ _ F=>xc F tx g17 g51) fun _ _ _ _ _ _=>b3 fun _ _ _=>rfl;have g53:=h53.fn P w base (fun _ _ F=>yd F tx g29 g31 g33 g35 g38 g43 g45 g52) fun _ _ _ _ _ _=>b4 fun _ _ _ _=>rfl;have g54:=h54.fn P w base (fun _ _ F=>wx F tx g19 g21 g22 g26 g53) fun _ _ _ _ _ _=>b4 fun _ _ _ _=>rfl;have g55:=h55.fn P w base (fun _ _ F=>D8 F tx g39 g41) fun _ _ _ _ _ _=>b1 fun _=>rfl;have g56:=h56.fn P w base (fun _ _ F=>BJ F tx cn g54 g55) fun _ _ _ _ _ _=>b4 fun _ _ _ _=>rfl;have r:=y8 (P:=P) (w:=w) (base:=base) F tx g0 g12 g13 g14 g15 g16 g56;exact r
theorem Fm{K:W.Frag}{l:List Addr}(h:(l.all fun a=>l.all fun b=>W.exmOne K (.ref a) (.ref b)==some (decide (a=b)))=true):∀a∈l,∀b∈l,W.exmOne K (.ref a) (.ref b)=some (decide (a=b)):=fun a ha b hb=>eq_of_beq (List.all_eq_true.mp (List.all_eq_true.mp h a ha) b hb)
theorem fJ{o:Obj}{a:Addr}:∀{l:W.Frag},l.lookup a=some o->(a,o)∈l
 |(b,p)::l,h=>by
  rw[List.lookup_cons]at h;cases e:a==b with
  |true=>rw[e]at h;cases h;cases eq_of_beq e;exact List.mem_cons_self
  |false=>rw[e]at h;exact List.mem_cons_of_mem _ (fJ h)
theorem Gu {q:Program} {loose:List Str} {XP:(Str->Option Value)->Heap->Prop} {YP:World->Heap->Prop} {d:DefRec} {K:Params->W.Frag} (hw:PySem.Challenge.rw_gameworth_s01_answers.wellSaid=true) (hdf:d.params.defaults=[]) (hN:∀w:World,((K w.params).all fun p=>p.2.cls !=.type "list")=true) (hY:∀(w:World)(h:Heap),YP w h->(K w.params).In h) (F:∀(w:World)(mg:Str->Option Value)(fa:Addr)(h:Heap),YP w h->(K w.params).In h->h.Ns mainGlobals mg->mg d.name=some (.ref fa)->∃fd:FuncData,(∀(s:Shared) (us:List Value),us.length=(["calls"]:List Str).length->BindsTo s fd ⟨us,[]⟩ ((["calls"]:List Str).zip us))/\∀base:Heap,(K w.params).In base->base.Ns mainGlobals mg->bj PySem.Challenge.rw_gameworth_s01_answers.prog w (K w.params) mg base (cH PySem.Challenge.rw_gameworth_s01_answers.prog w) 12 fa fd ["calls"] (md (K w.params) ⟨0,0,0,0,0,0,0,0⟩)) :W.WalkOS q loose XP YP PySem.Challenge.rw_gameworth_s01_answers d [] (fun f vs=>PySem.call f vs):=by
 refine A6 (k:=12) (K:=K) (CX:=fun w=>cH PySem.Challenge.rw_gameworth_s01_answers.prog w) (ps:=["calls"]) (sp:=fun w=>md (K w.params) ⟨0,0,0,0,0,0,0,0⟩) hw hdf rfl ⟨rfl,by decide,by decide⟩ hY F ?S ?X
 case S=>
  intro w H xs a hO hwi hask hx;cases hx with
  |cons h1 h2=>
   cases h2;cases h1 with
   |@lst p ys ds hs ha=>
    have e:=zO a.1 _ ha;subst e;obtain⟨gcs,h1,h2,h3⟩:=HP (l:=a.1) hask;refine⟨_,a.1,gcs,rfl,hs,?_,h1,h2,fun r H' _ hr=>?_⟩
    ·rcases hs with(z|⟨o,z⟩)|⟨o,_,_,z,y,_⟩
     ·rw[z];intro q;cases q
     ·rw[z];intro q;cases q
     ·exact absurd y (bne_iff_ne.mp (List.all_eq_true.mp (hN w) _ (fJ z)))
    ·show Dw _ _ _ (.list ((PyWqacdl.answers a.1).map W.WData.int));rw[h3];exact .lst (aV.of hr) (Ae _)
 case X=>intro w H s e s' h;obtain⟨_,_,_,_,_,_,_,_,_,_,_,_,_,_,h⟩:=h;exact h
end Gp
namespace PySem.Challenge.cw_gameworth_s01_answers_holds
def tw2403233905844159621:=0
def tw15311142473232093117:=0
def tw17124506846532584460:=0
def tw13047861751833112178:=0
def tw17432223615611396771:=0
def tw16367342574531358147:=0
def tw11993148449382784526:=0
def tw2607137734077640397:=0
def tw8058906252152285623:=0
def tw7921571587822333546:=0
def tw10083821336678056336:=0
def tw5135227499458861474:=0
def tw3301038470915399610:=0
def tw15912708959014024227:=0
def tw15826905642037847768:=0
def tw10817497395128644749:=0
def tw3592431857895706688:=0
def tw7647440460690413631:=0
def tw4915627554413260443:=0
def tw12260447861264410261:=0
def tw4033398677245892322:=0
def tw5517606761083693377:=0
def tw17999495926507173641:=0
def tw8698742638196613793:=0
def tw8124898626637984640:=0
def tw2483508480124806319:=0
def tw2880073036795183023:=0
def tw1537481935998137462:=0
def tw13570222406277423589:=0
def tw15968211484045734226:=0
def tw8054122283298626626:=0
def tw6596708509274192601:=0
def tw4212284179957393226:=0
def tw16637318556579090012:=0
def tw11774390510552169353:=0
def tw6041770726675175879:=0
def tw3099104753483314413:=0
def tw14111418112254927729:=0
def tw1193634710881729522:=0
def tw15942235333301442571:=0
def tw15093791965824716686:=0
def tw14793601277929101032:=0
def tw6083503187371520265:=0
def tw7850526466457187279:=0
def tw7117720282542298030:=0
def tw2116502455332889556:=0
def tw5136147559482535811:=0
def tw14630804470934819480:=0
def tw17183629362780708666:=0
def tw2379411732909253030:=0
def tw14496610218728329838:=0
def tw16048311291366011785:=0
def tw7289450101586864743:=0
def tw9361237168729173352:=0
def tw16142522912300793844:=0
def tw9341517204812291962:=0
def tw5699143228420504964:=0
def tw12443816862710991359:=0
def tw12293969209565525733:=0
def tw13885141669111235247:=0
def tw5148998692710792654:=0
def tw16682827914070877260:=0
def tw10114500375163219455:=0
def tw13648187407273975768:=0
def tw11315173379089784132:=0
def tw11834841866250423052:=0
def tw2841237384635234810:=0
def tw5285706542617993858:=0
def tw9486007569004664982:=0
def tw9807250521208979672:=0
def tw5608668965664536635:=0
def tw11221515210209114731:=0
def tw12382045841997773890:=0
def tw18226917761518193640:=0
def tw5588992964811773730:=0
def tw16872665212580623197:=0
def tw7377289540415399765:=0
def tw11949108494055869064:=0
def tw4616409015266302214:=0
def tw17715156283417086815:=0
def tw4984145201220919373:=0
def tw18090073970370741050:=0
def tw4250401086581620798:=0
def tw4825049591740662979:=0
def tw5920702422718229410:=0
def tw3291023974254805788:=0
def tw4913627992325398935:=0
def tw9268500242004835874:=0
def tw2987100697477522663:=0
def tw5412061136787427269:=0
def tw14648327510331485801:=0
def tw2342114682796833660:=0
def tw10986664388067056391:=0
def tw11495822070903891925:=0
def tw17910362309526766279:=0
def tw8403921791944053012:=0
def tw5101543600667686526:=0
def tw3425045528627498205:=0
def tw2106828325757602426:=0
def tw9632538516872722319:=0
def tw14639346640971272323:=0
def tw5787157189832740334:=0
def tw1450084432338861888:=0
def tw12005008876830277113:=0
def tw6699090326120718248:=0
def tw3048727329424091244:=0
def tw10210037045810158741:=0
def tw14038426704108956793:=0
def tw14776561003875218221:=0
def tw7207584712470629400:=0
def tw169621374468045223:=0
def tw4760920656240552923:=0
def tw4270767899729463807:=0
def tw6937528077412453889:=0
def tw5771189374350435956:=0
def tw1023499111457908296:=0
def tw8156410677129559071:=0
def tw11937636426238203398:=0
def tw9142925741169167448:=0
def tw2786702011514910351:=0
def tw15506834196037296187:=0
def tw5203474740724003653:=0
def tw14787627998193238352:=0
def tw4876038269959650089:=0
def tw12003225451545146327:=0
def tw7915205156111109403:=0
def tw989319796913750091:=0
def tw17909495030258258254:=0
def tw1696325116345350123:=0
def tw5386689463015272970:=0
def tw5634923608950757856:=0
def tw16721060643894944784:=0
def tw1927910753506005519:=0
def tw5525369513459570414:=0
def tw5447840193136300538:=0
def tw17313544350954530772:=0
def tw8548677326209886394:=0
def tw13296244605531393924:=0
def tw14402300586360605753:=0
def tw17298329541370090405:=0
def tw4519324730276525473:=0
def tw10796245433617646297:=0
def tw8351143507566980960:=0
def tw1482230891143816:=0
def tw960244685250185468:=0
def tw7055811769344711125:=0
def tw6442473246899756101:=0
def tw17467710524474722844:=0
def tw11440118879389705575:=0
def tw5040237104771669007:=0
def tw11218831896758497728:=0
def tw7918299191030975961:=0
def tw17056262978736886968:=0
def tw16216681856787378473:=0
def tw11709559745824172091:=0
def tw15431598505371121261:=0
def tw5602254717704614926:=0
def tw5077888904404548044:=0
def tw14441367951456628218:=0
def tw12088194484114952017:=0
def tw5016209201876949278:=0
def tw2269542811203349879:=0
def tw12522861852679905402:=0
def tw8792681094445037886:=0
def tw8225155739447711430:=0
def tw4466467481234029584:=0
def tw2085985002093929601:=0
def tw5056332650098757606:=0
def tw9137130161000513445:=0
def tw13887109956731223607:=0
def tw6392033986086004140:=0
def tw18313763483665653248:=0
def tw5406259415382269721:=0
def tw8002278156562454840:=0
def tw4450263813707913471:=0
def tw7399222448732742457:=0
def tw105004646122224598:=0
def tw3823096006286309889:=0
def tw12720312378674663345:=0
def tw3974523405341083379:=0
def tw10014090155266025403:=0
def tw12339409249740400549:=0
def tw11114045023238439289:=0
def tw5024484905389342280:=0
def tw11391087006225567069:=0
def tw8959035217156780389:=0
def tw8367572188764430863:=0
def tw2417124294210686014:=0
def tw4221359244865569842:=0
def tw12407105162842637865:=0
def tw4958490321480422687:=0
def tw6079305328179463682:=0
def tw6001971749057701571:=0
def tw10358721456673393335:=0
def tw18311065625675744355:=0
def tw5054807416219476875:=0
def tw18318235281497761467:=0
def tw9382421241548809258:=0
def tw12001753440363248039:=0
def tw8832601403061546134:=0
def tw18280192349272107247:=0
def tw3750001872614236071:=0
def tw3414176953911659639:=0
def tw17338289338938995154:=0
def tw7660548215208684676:=0
def tw3236571206082500078:=0
def tw6587829507416719607:=0
def tw18204072717150520808:=0
def tw8748033983980389961:=0
def tw17374708944696880694:=0
def tw8392366125615416749:=0
def tw8111179961468095223:=0
def tw12130584851042765400:=0
def tw12709581674344412603:=0
def tw8861562194438616411:=0
def tw10743260238715282744:=0
def tw17666923923657569281:=0
def tw17917935170240887660:=0
def tw669502725723389191:=0
def tw11909038836916077182:=0
def tw3121467834929635515:=0
def tw16176884345075471898:=0
def tw12977702102770410184:=0
def tw14024602957902389783:=0
def tw15891037387630642032:=0
def tw17222633177046541175:=0
def tw8608399507661961507:=0
def tw9080862338208132698:=0
def tw3339018738455233761:=0
def tw7270899559483278301:=0
def tw11783131828848750108:=0
def tw10406311781125660423:=0
def tw15781183394738881855:=0
def tw3684192097889279266:=0
def tw17329842715121354033:=0
def tw4723836340528497516:=0
def tw10202070700956897538:=0
def tw1343427369977978471:=0
def tw8193568492845468739:=0
def tw223763549738850396:=0
def tw12818345463590192061:=0
def tw10519914554685272599:=0
def tw1530223378845124305:=0
def tw14436706140043457206:=0
def tw17983275948206496202:=0
def tw1104016802841011443:=0
def tw12753830377414222445:=0
def tw4399170322352227429:=0
def tw7602101797516789611:=0
def tw9113112631035505103:=0
def tw2468600079378110359:=0
def tw6892351739337358123:=0
def tw13379218801959452683:=0
def tw14776702009425925344:=0
def tw9808389992036059368:=0
def tw10455052160100866419:=0
def tw3463634578554420581:=0
def tw7129225595178163591:=0
def tw6563456952387151284:=0
def tw15506739095646285809:=0
def tw17505103493328598916:=0
def tw17362981873335644316:=0
def tw16275019436086696053:=0
def tw11694581316904282058:=0
def tw12210961220138461816:=0
def tw5072617437614453905:=0
def tw17696600538492404802:=0
def tw10946888155750604549:=0
def tw15902369250876518064:=0
def tw9781547060169303159:=0
def tw3977618331706283530:=0
def tw17867336529730767598:=0
def tw12161709723085751244:=0
def tw1597859249382329043:=0
def tw10403497360664083706:=0
def tw3868578822997469890:=0
def tw6096562083725122952:=0
def tw11969706090064822163:=0
def tw2512579020585636779:=0
def tw1805896937089725243:=0
def tw16848057282970648574:=0
def tw14572256459238802172:=0
def tw1273669941330613590:=0
def tw7145485245033117391:=0
def tw866915121455997625:=0
def tw18110088625464088488:=0
def tw17782290687951846576:=0
def tw4110275486423488050:=0
def tw3248352340642242863:=0
def tw729358681141052470:=0
def tw16937573141082376327:=0
def tw7879791336053660908:=0
end PySem.Challenge.cw_gameworth_s01_answers_holds
open PySem PySem.W PyProof.Rows
set_option maxHeartbeats 0 in
set_option Elab.async true in
theorem PySem.Challenge.cw_gameworth_s01_answers_holds : PySem.Challenge.rw_gameworth_s01_answers.Holds := by
  w_on; k_headS; (case hw => exact ⟨[.list [.int 9]], by decide +kernel, by decide +kernel⟩)
  k_fillS
  refine Gp.Gu (by decide +kernel) rfl (fun _ => by kernel_rfl) (fun w h Y => PySem.W.kIn_of Y) ?F
  intro w mg fa h Y KX G hmg
  refine' Gp.EU hmg (Gp.kf KX G ?_ ?_ ?_ ?_ ?_ ?_ ?_ ?_) (Gp.kf KX G ?_ ?_ ?_ ?_ ?_ ?_ ?_ ?_) (Gp.kf KX G ?_ ?_ ?_ ?_ ?_ ?_ ?_ ?_) (Gp.kf KX G ?_ ?_ ?_ ?_ ?_ ?_ ?_ ?_) ⟨⟨?_, ?_, ?_, ?_⟩, ⟨?_, ?_, ?_, ?_⟩, ⟨?_, ?_, ?_, ?_⟩, ⟨?_, ?_, ?_, ?_⟩, ?_, ?_, ?_, ?_, ?_, ?_, ?_, ?_, ?_, ?_, ?_, ?_, ?_, ?_, ?_, Gp.gi KX G ?_, Gp.gi KX G ?_, Gp.gi KX G ?_, Gp.gi KX G ?_, Gp.gi KX G ?_, Gp.gi KX G ?_, Gp.gi KX G ?_, Gp.gi KX G ?_, Gp.gi KX G ?_, Gp.gi KX G ?_, Gp.gi KX G ?_, Gp.gi KX G ?_, Gp.gi KX G ?_, Gp.gi KX G ?_, Gp.gi KX G ?_, Gp.gi KX G ?_, Gp.gi KX G ?_, Gp.gi KX G ?_, Gp.gi KX G ?_, Gp.gi KX G ?_, Gp.gi KX G ?_, Gp.gi KX G ?_, Gp.gi KX G ?_, Gp.gi KX G ?_, Gp.gi KX G ?_, Gp.gi KX G ?_, Gp.gt KX G ?_ ?_ ?_ ?_, Gp.gt KX G ?_ ?_ ?_ ?_, PySem.W.mg_none_of KX G ?_, PySem.W.mg_none_of KX G ?_, PySem.W.mg_none_of KX G ?_, PySem.W.mg_none_of KX G ?_, PySem.W.mg_none_of KX G ?_, PySem.W.mg_none_of KX G ?_, PySem.W.mg_none_of KX G ?_, PySem.W.mg_none_of KX G ?_, PySem.W.mg_none_of KX G ?_, Gp.gx KX G ?_ ?_, Gp.gx KX G ?_ ?_, Gp.gx KX G ?_ ?_, Gp.gx KX G ?_ ?_, Gp.Fm ?_⟩ ?_ (Gp.gf KX G ?_ ?_ ?_ ?_) (Gp.gf KX G ?_ ?_ ?_ ?_) (Gp.gf KX G ?_ ?_ ?_ ?_) (Gp.gf KX G ?_ ?_ ?_ ?_) (Gp.gf KX G ?_ ?_ ?_ ?_) (Gp.gf KX G ?_ ?_ ?_ ?_) (Gp.gf KX G ?_ ?_ ?_ ?_) (Gp.gf KX G ?_ ?_ ?_ ?_) (Gp.gf KX G ?_ ?_ ?_ ?_) (Gp.gf KX G ?_ ?_ ?_ ?_) (Gp.gf KX G ?_ ?_ ?_ ?_) (Gp.gf KX G ?_ ?_ ?_ ?_) (Gp.gf KX G ?_ ?_ ?_ ?_) (Gp.gf KX G ?_ ?_ ?_ ?_) (Gp.gf KX G ?_ ?_ ?_ ?_) (Gp.gf KX G ?_ ?_ ?_ ?_) (Gp.gf KX G ?_ ?_ ?_ ?_) (Gp.gf KX G ?_ ?_ ?_ ?_) (Gp.gf KX G ?_ ?_ ?_ ?_) (Gp.gf KX G ?_ ?_ ?_ ?_) (Gp.gf KX G ?_ ?_ ?_ ?_) (Gp.gf KX G ?_ ?_ ?_ ?_) (Gp.gf KX G ?_ ?_ ?_ ?_) (Gp.gf KX G ?_ ?_ ?_ ?_) (Gp.gf KX G ?_ ?_ ?_ ?_) (Gp.gf KX G ?_ ?_ ?_ ?_) (Gp.mf ?_ ?_ ?_ ?_ ?_) (Gp.mf ?_ ?_ ?_ ?_ ?_) (Gp.mf ?_ ?_ ?_ ?_ ?_) (Gp.mf ?_ ?_ ?_ ?_ ?_) (Gp.mf ?_ ?_ ?_ ?_ ?_) (Gp.mf ?_ ?_ ?_ ?_ ?_) (Gp.mf ?_ ?_ ?_ ?_ ?_) (Gp.mf ?_ ?_ ?_ ?_ ?_) (Gp.mf ?_ ?_ ?_ ?_ ?_) (Gp.mf ?_ ?_ ?_ ?_ ?_) (Gp.mf ?_ ?_ ?_ ?_ ?_) (Gp.mf ?_ ?_ ?_ ?_ ?_) (Gp.mf ?_ ?_ ?_ ?_ ?_) (Gp.mf ?_ ?_ ?_ ?_ ?_) (Gp.mf ?_ ?_ ?_ ?_ ?_) (Gp.mf ?_ ?_ ?_ ?_ ?_) (Gp.mf ?_ ?_ ?_ ?_ ?_) (Gp.mf ?_ ?_ ?_ ?_ ?_) (Gp.mf ?_ ?_ ?_ ?_ ?_) (Gp.mf ?_ ?_ ?_ ?_ ?_) (Gp.mf ?_ ?_ ?_ ?_ ?_) (Gp.mf ?_ ?_ ?_ ?_ ?_) (Gp.mf ?_ ?_ ?_ ?_ ?_) (Gp.mf ?_ ?_ ?_ ?_ ?_) (Gp.mf ?_ ?_ ?_ ?_ ?_) (Gp.mf ?_ ?_ ?_ ?_ ?_) (Gp.mf ?_ ?_ ?_ ?_ ?_) (Gp.gf KX G ?_ ?_ ?_ ?_)
  all_goals try k_is
  all_goals try dsimp only
  all_goals try k_is
  all_goals try (change _ = _; k_is)
  all_goals first | kernel_rfl! | decide | (repeat' (first | exact PySem.Paired.nil | refine PySem.Paired.cons ⟨_, rfl⟩ ?_))
