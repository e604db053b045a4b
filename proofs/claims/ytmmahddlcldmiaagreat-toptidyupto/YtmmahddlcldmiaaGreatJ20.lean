/- Proved here: plain facts and contracts. No condition but what each names. -/
import Derived.Test.YtmmahddlcldmiaaGreatJ19
namespace Go.Proofs.YtmmahddlcldmiaaGreat
open Go.RowKit
set_option maxRecDepth 100000
set_option maxHeartbeats 1000000
def nw:List An:=nX 1 (List.replicate 4 fw)
def Pb(a:An):Tc:=cn a.1 a.2
def lH{n:Nat}(c:Cl (n+1))(s m:Tc):Option (List Tc):=(ij (n+1) c.1.1 13 s nw).bind λb=>(ij (n+1) c.1.2.1 13 m b).map λa=>a.map Pb
def mr{n:Nat}(s m:Tc):List (Cl (n+1))->Option (Cl (n+1)×List Tc)
 | []=>none
 | c::l=>match lH c s m with
  | some b=>some (c,b)
  | none=>mr s m l
def sw{n:Nat}(l:List (Cl (n+1)))(s:Tc):List Tc->Nat->Option (Nat×Cl (n+1)×List Tc)
 | [],_=>none
 | m::ms,i=>match mr s m l with
  | some x=>some (i,x)
  | none=>sw l s ms (i+1)
theorem G3{x y:An}(a:ez x y=true)(d:CV y):CV x:=by
 obtain⟨b,c⟩:=d;refine⟨(bV a).trans b,?_⟩;rw[vh a,cM _ _ _ _ a];exact c
theorem sP{d β:Type}(f:d->β->Bool):(p:List d)->(q:List β)->aG f p q=true->∀x∈p,∃y∈q,f x y=true
 | [],_,_,x,c=>by simp at c
 | _::_,[],h,_,_=>by simp[aG]at h
 | a::p,b::q,h,x,c=>by
  simp only[aG,aK]at h;rcases cv.1 c with rfl|c
  ·exact⟨b,by simp,h.1⟩
  ·obtain⟨y,g,e⟩:=sP f p q h.2 x c;exact⟨y,bR _ g,e⟩
variable{room:Int}{p q:List An}{B:List Tc}{ws:List Wd}{nm:List ap}{D N g i k m n o:Nat}{a:Wd}{S:aR}{w w':ag}{v0 v1 v2 v3:av}
theorem G4(a:aG ez p q=true)(b:∀y∈q,CV y):∀x∈p,CV x:=λx c=>by
 obtain⟨y,d,e⟩:=sP _ _ _ a x c;exact G3 e (b y d)
theorem sk{n:Nat}:(l:List (Tm n))->(b:List An)->(∀y∈b,aI y/\y.1<=n)->aG (λx y=>aB n x n y) l (b.map λa=>aY n a.1 a.2)=true->aG ez (nX n l) b=true
 | [],[],_,_=>rfl
 | [],_::_,_,h=>by simp[aG]at h
 | _::_,[],_,h=>by simp[aG]at h
 | x::l,a::b,hb,h=>by
  simp only[aU,aG,aK]at h;simp only[nX,aU,aG,aK];obtain⟨c,d⟩:=hb a (by simp);exact⟨bM _ _ _ _ _ _ h.1 (fG n a.1 d a.2 c),sk l b (λy e=>hb y (bR _ e)) h.2⟩
theorem Jk(a:aG ez p q=true):p.map Pb=q.map Pb:=kG _ _ _ p q (λ_ _ _ b=>io b) a
theorem uB:aG ez nw nw=true:=by
 refine je _ _ λa b=>?_;exact fH _ _ (rL (CY a b))
theorem Nv{x:Tm n}(a:bE n x=0)(b:aS n x=true):CV ⟨n,x⟩:=⟨a,aj b⟩
theorem cr.both{P Q:aR}:{n:Nat}->{x:Tm n}->cr P n x->cr Q n x->cr (λb=>P b/\Q b) n x
 | 0,_,p,_=>p
 | _+1,_,p,k=>by
  rcases p with p|⟨b,o,e,g,p⟩
  ·exact ai p
  ·rcases k with k|⟨j,l,a,h,k⟩
   ·exact ai k
   ·rw[e]at a;injection a with a;injection a with d f;subst d f;exact aj ⟨b,o,e,⟨g,h⟩,λi y c=>(p i y c).both (k i y c)⟩
structure qR (D:Nat) (l:List (Tm D)) (B:List Tc) (b0:Nat) (w':ag) (bg bc:Nat):Prop where
 bnd:gn D l=true
 tells:l.map (cn D)=B
 cap:4<=bc/\bc<=maxLen
 new:b0<=bg/\bg<w'.heap.size
 at':∀(i:Nat)(y:Tm D),l[i]?=some y->dH w' bg (i*4) D y/\In w'.heap.size w' D y/\cr (λq=>b0<=q/\q≠bg) D y
 free:∀j,w'.frozen? ⟨bg,j,none⟩=false
def Nr{n:Nat}(c:Cl (n+1))(s m:Tc)(w:ag)(e:Ending)(w':ag):Prop:=
 ∃b len f g,e=.returned (.tuple #[ae b len f,.bool g])/\Hid (ak w w'/\g=(lH c s m).isSome/\∀a,lH c s m=some a->len=4/\∃h l d,b=some ⟨d,0,none⟩/\qR h l a w.heap.size w' d f)
theorem JH(c:Cl (n+1))(s:Tm (m+1))(t:Tm (k+1))(R:bE (n+1) c.1.1=0)(S:bE (n+1) c.1.2.1=0)(A:bE (m+1) s=0)(T:aS (m+1) s=true)(B:bE (k+1) t=0)(U:aS (k+1) t=true){e:Ending}(Q:IU (ij (n+1) c.1.1 (m+1) s nw) (ij (n+1) c.1.2.1 (k+1) t) w e w'):Nr c (cn (m+1) s) (cn (k+1) t) w e w':=by
 obtain⟨K,len,P,aq,rfl,J⟩:=Q;obtain⟨V,Z,ae⟩:=J;refine⟨K,len,P,aq,rfl,V,?_⟩;have f:=mx (n+1) c.1.1 (m+1) s (n+1) c.1.1 13 (cn (m+1) s) nw nw (fH _ _ (aT.2 (bG.1 R).1)) (dB _ _ _ _ (ex A)) uB;cases e1:ij (n+1) c.1.1 (m+1) s nw with
 | none=>
  rw[e1]at f;cases e2:ij (n+1) c.1.1 13 (cn (m+1) s) nw with
  | some _=>
   rw[e2]at f;exact f.elim
  | none=>
   have j:lH c (cn (m+1) s) (cn (k+1) t)=none:=by simp[lH,e2]
   rw[j];exact⟨Z e1,λz i=>by cases i⟩
 | some b=>
  rw[e1]at f;cases e2:ij (n+1) c.1.1 13 (cn (m+1) s) nw with
  | none=>
   rw[e2]at f;exact f.elim
  | some q=>
   rw[e2]at f;have r:=lh CV oB (n+1) c.1.1 (m+1) s (Nv A T) nw b ⟨by simp[nw,nX],CY⟩ e1;obtain⟨o,X,aa,af⟩:=ae b e1;have p:aG ez (nX (np b) o) b=true:=sk o b (λa d=>⟨rL (r.2 a d),Af b a d⟩) X;have L:aG ez (nX (np b) o) q=true:=oE ez ez ez _ _ _ (λH _ a I ak G=>bM H.1 H.2 a.1 a.2 I.1 I.2 ak G) p f;have g:=mx (n+1) c.1.2.1 (k+1) t (n+1) c.1.2.1 13 (cn (k+1) t) _ _ (fH _ _ (aT.2 (bG.1 S).1)) (dB _ _ _ _ (ex B)) L;cases e3:ij (n+1) c.1.2.1 (k+1) t (nX (np b) o)with
   | none=>
    rw[e3]at g;cases e4:ij (n+1) c.1.2.1 13 (cn (k+1) t) q with
    | some _=>
     rw[e4]at g;exact g.elim
    | none=>
     have j:lH c (cn (m+1) s) (cn (k+1) t)=none:=by simp[lH,e2,e4]
     rw[j];exact⟨aa e3,λz i=>by cases i⟩
   | some h=>
    rw[e3]at g;cases e4:ij (n+1) c.1.2.1 13 (cn (k+1) t) q with
    | none=>
     rw[e4]at g;exact g.elim
    | some N=>
     rw[e4]at g;have j:lH c (cn (m+1) s) (cn (k+1) t)=some (N.map Pb):=by simp[lH,e2,e4]
     rw[j];obtain⟨ai,aj,E,aw,l,ar,F⟩:=af h e3;refine⟨ai,λz i=>⟨aj,np h,l,?_⟩⟩;cases i;have ab:=G4 p r.2;have Y:(nX (np b) o).length=4:=by rw[cP _ _ _ p];exact r.1
     have C:=lh CV oB (n+1) c.1.2.1 (k+1) t (Nv B U) _ h ⟨Y,ab⟩ e3;have D:∀a∈h,aI a:=λa d=>rL (C.2 a d);obtain⟨_,v,ah,_⟩:=E9 F D E;have W:=yq C.2 v E ah;obtain⟨_,_,au,al,am,x⟩:=F;rcases x with x|⟨O,bo,rfl,⟨av,rfl,ao,ap⟩,an,y⟩
     ·rw[x]at v;simp at v
     ·refine⟨O,rfl,W,?_,⟨by omega,al⟩,⟨by omega,an⟩,λu a d=>⟨?_,(y u a d).2.1,(cr.both (y u a d).2.2 (ap a (aN d))).mono λG ad=>⟨by omega,ad.2⟩⟩,ao⟩;rotate_left
      ·have:=(y u a d).1;rw[de]at this;exact this
      have M:aG ez (nX (np h) l) h=true:=sk l h (λa d=>⟨D a d,Af h a d⟩) am;rw[<-Jk g,<-Jk M];simp[nX,Pb]
theorem Hi(c:Cl (n+1))(s:Tm (m+1))(t:Tm (k+1))(B:Nat)(w:ag)(i:ig (n+1) B w c)(j:In B w (m+1) s)(l:In B w (k+1) t)(h:B<=w.heap.size)(a:bE (n+1) c.1.1=0)(b:bE (n+1) c.1.2.1=0)(d:bE (m+1) s=0)(e:aS (m+1) s=true)(f:bE (k+1) t=0)(g:aS (k+1) t=true):am 115 #[.agg (fk (n+1) c).toArray,dw (m+1) s,dw (k+1) t] w (Nr c (cn (m+1) s) (cn (k+1) t) w):=
 (Hh n m k c s t B w i j l h a b d (by rw[<-fF];exact e) f (by rw[<-fF];exact g)).mono λ_ _ o=>JH c s t a b d e f g o
theorem lR:(N n:Nat)->n<=N->(x:Tm n)->aS N (aY N n x)=aS n x
 | 0,0,_,_=>rfl
 | _+1,0,_,_=>by simp[aY,aS]
 | 0,n+1,h,_=>by omega
 | N+1,n+1,h,x=>by
  have:(x.2.2.map λy=>aY N n y).all (λy=>aS N y)=x.2.2.all λy=>aS n y:=by
   rw[List.all_map];congr 1;funext y;exact lR N n (by omega) y
  simp only[aS,aY];rw[this]
theorem yx(m:Nat)(b:List (Tm m))(self:Int)(k:∀y∈b,b8 ⟨m,y⟩=6\/aS m y=true):(n:Nat)->(x:Tm n)->aI ⟨n,x⟩->(j:Tm (m+n))->vl m b self n x=some j->aS (m+n) j=true
 | 0,_,_,_,d=>by simp[vl]at d
 | n+1,x,hr,j,d=>by
  have p:=eR (bI n x) (hr (bI n x) (by simp[aC,bI]));by_cases g:x.1.1=6
  ·rw[Ll m b self n x g]at d;cases d
  ·by_cases f:x.1.1=5
   ·simp only[vl,f,cY]at d;obtain⟨y,h,d⟩:=bC.1 d;split at d
    ·cases d
    ·rename_i t;obtain rfl:=aA d;exact(lR (m+n+1) m (by omega) y).trans ((k y (aN h)).resolve_left t)
   ·by_cases e:x.1.1=4
    ·rw[Lm m b self n x e]at d;unfold wZ at d;split at d
     ·obtain rfl:=aA d;simp[bT,aS]
     ·split at d
      ·obtain⟨a,q,d⟩:=bC.1 d;obtain⟨c,D,d⟩:=bC.1 d;obtain⟨A,C,d⟩:=bC.1 d;obtain⟨B,E,d⟩:=bC.1 d;unfold tV at d;split at d
       ·obtain rfl:=aA d;simp[bT,aS]
       ·cases d
      ·split at d
       ·obtain⟨a,q,d⟩:=bC.1 d;split at d
        ·rename_i r;obtain rfl:=aA d;exact(lR (m+n+1) n (by omega) a).trans r
        ·cases d
       ·obtain⟨l,u,rfl⟩:=cw.1 d;obtain⟨w,z⟩:=qY _ _ _ u;show aS (m+n+1) (dl (m+n) l)=true;simp only[aS,dl];simp only[aK,cu];refine⟨by decide,λy h=>?_⟩;obtain⟨i,o⟩:=dd h;have s:i<x.2.2.length:=by rw[<-w];exact(aX.1 o).1
        exact yx m b self k n x.2.2[i] (bf n x _ hr (jM _)) y (z i _ y (aM s) o)
    ·rw[FL m b self n x e f g]at d;obtain rfl:=aA d;have v:x.2.2=[]:=bJ (p.2.2.2.2 e);refine(lR (m+n+1) (n+1) (by omega) x).trans ?_;simp[aS,f,g,v]
def gj(n:Nat)(name:ap):List (Bh n)->Option (Bh n)
 | []=>none
 | b::l=>if b.1=name then some b else gj n name l
def L0(n:Nat):Option (Bh n)->av
 | none=>ae none 0 0
 | some b=>ae b.2.1.1 b.2.2.length b.2.1.2
theorem oN(n:Nat)(name:ap){l:List (Bh n)}{j:Nat}{b:Bh n}(c:l[j]?=some b):gj n name (l.drop j)=if b.1=name then some b else gj n name (l.drop (j+1)):=by
 obtain⟨d,a⟩:=aX.1 c;rw[eM d,a];rfl
theorem uK(n:Nat)(name:ap)(l:List (Bh n))(r:aw)(D len B:Nat)(w:ag)(G:l.length=len)(H:len<=9223372036854775807)(z:B<=w.heap.size)(x:Hid (gq n B w r l)):am 77 #[ae r len D,af name] w λe w'=>e=.returned (L0 n (gj n name l))/\ak w w':=by
 go_enter Tryz.func77,Tryz.ntmps77;go_wp2_with fail;go_loopw [9] (λq wr=>∃a:Nat,a<=len/\q=ab a/\Hid (ak w wr/\gj n name l=gj n name (l.drop a))) (λq _=>len-(intOf q).toNat)
 case atStart=>exact⟨0,by omega,rfl,aq _ _,rfl⟩
 case round=>
 obtain⟨a,F,rfl,c⟩:=hrel;by_cases I:a<len
 ·obtain⟨b,d⟩:∃b,l[a]?=some b:=⟨l[a]'(by omega),aM _⟩;obtain⟨k,lo,rfl,C,v⟩:∃g o,r=some ⟨g,o,none⟩/\g<B/\Hid (∀(t:Nat)(f:av),(pN n b)[t]?=some f->w.cell? ⟨g,o+a*2+t,none⟩=some f):=by
   rcases x with e|⟨g,o,e,A,y⟩
   ·rw[e]at d;simp at d
   ·exact⟨g,o,e,A,(y a _ d).1⟩
  have i:∀(t:Nat)(f:av),(pN n b)[t]?=some f->wr.cell? ⟨k,lo+a*2+t,none⟩=some f:=λt f u=>(c.1.cell (p:=⟨k,lo+a*2+t,none⟩) (aW C z)).trans (v t f u);have E:wr.cell? ⟨k,lo+a*2,none⟩=some (af b.1):=i 0 _ rfl;have L:wr.cell? ⟨k,lo+a*2+1,none⟩=some (ae b.2.1.1 b.2.2.length b.2.1.2):=i 1 _ rfl;have J:(0:Int)<=(a:Int):=by omega
  have K:(a:Int)<(len:Int):=by omega
  have s:Hid (∀o:Obj,ak w (wr.alloc o)):=λo=>c.1.alloc c.1.size o;by_cases j:b.1=name
  ·have h:Hid (gj n name l=some b):=by
     show _=_;rw[c.out.2,oN n name d,if_pos j]
   have m:Hid (L0 n (gj n name l)=ae b.2.1.1 b.2.2.length b.2.1.2):=by
    show _=_;rw[h.out];rfl
   rw[j]at E;clear i c h d;go_wp2_with fail
   go_ret
   rw[m.out];exact⟨rfl,s _⟩
  ·have h:Hid (gj n name l=gj n name (l.drop (a+1))):=by
     show _=_;rw[c.out.2,oN n name d,if_neg j]
   have u:(b.1.toList==name.toList)=false:=by
    rw[iH];intro e;rw[cE,cE]at e;exact j (ByteArray.ext (Array.ext' e))
   clear i c d;go_wp2_with fail;go_roundw
   case rel=>exact⟨a+1,by omega,by go_num,s _,h⟩
   case measure=>simp[intOf];omega
 ·obtain rfl:a=len:=by omega
  have m:Hid (L0 n (gj n name l)=ae none 0 0):=by
   show _=_;rw[c.out.2,px (by omega)];rfl
  have HB:=au c.1;clear c;go_wp2_with fail
  go_ret
  rw[m.out];exact⟨rfl,HB⟩
def sT(b:List Tc)(self:Int)(n:Nat)(x:Tm n):Option Tc:=(vl 13 b self n x).bind λa=>if bE (13+n) a=0 then some (cn (13+n) a)else none
def nF(b:List Tc)(self:Int)(n:Nat)(x:Tm n):Option Int:=(sT b self n x).bind λt=>if t.1.1=3 then some t.1.2.1 else none
structure Dg where
 b:List Tc
 next:Int
 sends:List (Int×Tc)
 spawns:List (Int×ap×Tc)
 links:List Int
 stops:Bool
def DY(u:Int):Tc:=((3,u,.empty),(none,0),[])
def rz(self:Int){n:Nat}(a:Ac (n+1))(d:Dg):Option Dg:=
 if a.1=1 then (nF d.b self (n+1) a.2.1.1).bind λc=>(sT d.b self (n+1) a.2.1.2).map λt=>{d with sends:=d.sends++ [(c,t)]}
 else if a.1=2 then (sT d.b self (n+1) a.2.1.2).bind λt=>if b8 ⟨13,(d.b[a.2.2.2.toNat]?).getD (DY 0)⟩=6 then some {d with b:=d.b.set a.2.2.2.toNat (DY d.next),next:=d.next+1,spawns:=d.spawns++ [(d.next,a.2.2.1,t)]}else none
 else if a.1=3 then (nF d.b self (n+1) a.2.1.1).map λc=>{d with links:=d.links++ [c]}
 else some {d with stops:=true}
def qq(self:Int){n:Nat}:List (Ac (n+1))->Dg->Option Dg
 | [],d=>some d
 | a::l,d=>(rz self a d).bind (qq self l)
structure Tk where
 message:Tc
 fate:Int
 sends:List (Int×Tc)
 spawns:List (Int×ap×Tc)
 links:List Int
 state:Tc
 mail:List Tc
def fx{n:Nat}(room self next:Int)(s m:Tc)(ms:List Tc)(c:Cl (n+1))(b:List Tc):Tk:=
 match qq self c.2.2 ⟨b,next,[],[],[],false⟩with
 | none=>⟨m,2,[],[],[],s,ms⟩
 | some a=>match sT a.b self (n+1) c.1.2.2 with
  | none=>⟨m,2,[],[],[],s,ms⟩
  | some t=>if (ms.map (sz 13)).sum+sz 13 t<=room then ⟨m,if a.stops then 1 else 0,a.sends,a.spawns,a.links,t,ms⟩else ⟨m,3,[],[],[],s,ms⟩
def gt{n:Nat}(name:ap)(l:List (Bh (n+1))):List (Cl (n+1)):=((gj (n+1) name l).map λb=>b.2.2).getD []
def nJ{n:Nat}(room:Int)(l:List (Bh (n+1)))(name:ap)(self next:Int)(s:Tc)(ms:List Tc):Option Tk:=
 (sw (gt name l) s ms 0).bind λa=>(ms[a.1]?).map λb=>fx room self next s b (ms.eraseIdx a.1) a.2.1 a.2.2
theorem xX{l:List (Tm D)}(c:gn D l=true)(d:l.map (cn D)=B):aG (λx y=>aB D x 13 y) l B=true:=by
 rw[<-d];refine qE (λy x=>aB 13 y D x) _ _ _ (λf _ b a=>dB _ _ _ _ a) (jd _ _ _ λy e=>?_);exact ex ((im c).2 y e).1
theorem KG{l:List (Tm D)}(b:gn D l=true)(c:l.map (cn D)=B):gn 13 B=true:=by
 have e:=xX b c;obtain⟨f,g⟩:=im b;unfold gn;rw[<-cP _ _ _ e,f];simp only[decide_true,eJ,cu];intro k d;rw[<-c]at d;obtain⟨j,i,rfl⟩:=cm.1 d;have a:=g j i;have h:=ex a.1;simp only[BM,aK,cF,iB];refine⟨og a.1,?_⟩;rw[kH h,<-fF,mu a.1];exact a.2.2
theorem Lj{l:List (Tm D)}(b:gn D l=true)(g:l.map (cn D)=B)(self:Int)(x:Tm n)(k:bE n x=0):(nZ 0 (vl D l self n x)).map (cn (D+n))=sT B self n x:=by
 have j:aI ⟨n,x⟩:=aT.2 (bG.1 k).1;have i:=KG b g;have a:=r7 D l 13 B self (xX b g) (λd c=>aT.2 (bG.1 ((im b).2 d c).1).1) (λd c=>aT.2 (bG.1 ((im i).2 d c).1).1) n x j;unfold sT nZ;cases e1:vl D l self n x with
 | none=>
  rw[e1]at a;cases e2:vl 13 B self n x with
  | none=>rfl
  | some _=>
   rw[e2]at a;exact a.elim
 | some m=>
  rw[e1]at a;cases e2:vl 13 B self n x with
  | none=>
   rw[e2]at a;exact a.elim
  | some h=>
   rw[e2]at a;have f:aB (D+n) m (13+n) h=true:=a;simp only[cY,dG];rw[bV f];by_cases e:bE (13+n) h=0
   ·simp[e,io f]
   ·simp[e]
theorem OM(d:gn 13 B=true){self:Int}{x:Tm n}(f:bE n x=0){t:Tc}(a:sT B self n x=some t):bE 13 t=0/\aS 13 t=true/\cn 13 t=t:=by
 have e:aI ⟨n,x⟩:=aT.2 (bG.1 f).1;unfold sT at a;obtain⟨c,h,a⟩:=bC.1 a;by_cases b:bE (13+n) c=0
 ·rw[if_pos b]at a;obtain rfl:=aA a;refine⟨og b,?_,L6 b⟩;rw[mu b];exact yx 13 B self (λi g=>((im d).2 i g).2.2) n x e c h
 ·rw[if_neg b]at a;cases a
def lJ(b a:Nat)(d c lv:av)(q:Nat):Prop:=q=b\/q=a\/d.ownBlock=some q\/c.ownBlock=some q\/lv.ownBlock=some q
def Ly(base b a:Nat)(d c lv:av)(q:Nat):Prop:=base<=q/\¬lJ b a d c lv q
structure eD (base db:Nat) (me:Int) (n D k:Nat) (nx:Int) (d:Dg) (w:ag) (l:List (Tm (D+1))) (bg bc:Nat) (sd:List (Int×Tm (D+1+n+1))) (sp:List (Int×ap×Tm (D+1+n+1))) (sv pv lv:av):Prop where
 box:w.heap[db]?=some (.cells #[ae (some ⟨bg,0,none⟩) 4 bc,ab me,ab d.next,sv,pv,lv,.bool d.stops] 170)
 own:db≠bg/\base<=db/\base<=bg/\bg<w.heap.size/\base<=w.heap.size
 bnd:gn (D+1) l=true
 tells:l.map (cn (D+1))=d.b
 row:∀(i:Nat)(y:Tm (D+1)),l[i]?=some y->dH w bg (i*4) (D+1) y/\In w.heap.size w (D+1) y/\cr (Ly base db bg sv pv lv) (D+1) y
 free:∀j,w.frozen? ⟨bg,j,none⟩=false
 sRow:w.ownsRow base 177 5 sv sd.length (sd.flatMap λz=>Nz z.1 z.2)
 pRow:w.ownsRow base 174 6 pv sp.length (sp.flatMap λz=>OC z.1 z.2.1 z.2.2)
 lRow:w.ownsRow base 3 1 lv d.links.length (d.links.map λu=>ab u)
 sIs:sd.map (λz=>(z.1,cn _ z.2))=d.sends
 pIs:sp.map (λz=>(z.1,z.2.1,cn _ z.2.2))=d.spawns
 sIn:∀z∈sd,bE _ z.2=0/\In w.heap.size w _ z.2/\cr (Ly base db bg sv pv lv) _ z.2
 pIn:∀z∈sp,bE _ z.2.2=0/\In w.heap.size w _ z.2.2/\cr (Ly base db bg sv pv lv) _ z.2.2
 apart:(sv.ownBlock≠some db/\pv.ownBlock≠some db/\lv.ownBlock≠some db)/\(sv.ownBlock≠some bg/\pv.ownBlock≠some bg/\lv.ownBlock≠some bg)/\∀q,(sv.ownBlock=some q->pv.ownBlock≠some q/\lv.ownBlock≠some q)/\(pv.ownBlock=some q->lv.ownBlock≠some q)
 few:sd.length<=k/\sp.length<=k/\d.links.length<=k/\d.next=nx+sp.length/\1<=nx/\nx<=92
def Do(base b:Nat)(self:Int)(n D k:Nat)(g:Int)(d:Dg)(S:aR)(w0 w:ag):Prop:=∃l a f h i e c lv,eD base b self n D k g d w l a f h i e c lv/\∀q,lJ b a e c lv q->S q\/w0.heap.size<=q
theorem sF{base:Nat}{x:Tm n}{c:aR}(k:bB S w w')(f:∀q,c q->S q\/w.heap.size<=q)(d:In w.heap.size w n x)(e:cr (λq=>base<=q/\¬S q) n x):In w'.heap.size w' n x/\cr (λq=>base<=q/\¬c q) n x:=by
 refine⟨d.kee k (e.mono λq a=>a.2),(In.offB e d).mono λq a=>⟨a.1.1,λb=>?_⟩⟩;rcases f q b with b|b
 ·exact a.1.2 b
 ·have:=a.2;omega
theorem DF{q:List (Tm n)}{a:aw}(c:fM w.heap.size w n q a)(d:ak w w'):fM w'.heap.size w' n q a:=by
 rcases c.below d with c|⟨b,o,h,i,c⟩
 ·exact ai c
 ·exact aj ⟨b,o,h,aW i d.size,λf g e=>⟨(c f g e).1,(c f g e).2.mono d.size⟩⟩
section
variable {base db:Nat} {self:Int} {n D k:Nat} {nx:Int} {d:Dg} {w:ag} {l:List (Tm (D+1))} {bg bc:Nat} {sd:List (Int×Tm (D+1+n+1))} {sp:List (Int×ap×Tm (D+1+n+1))} {sv pv lv:av}
theorem eD.lt(a:eD base db self n D k nx d w l bg bc sd sp sv pv lv):db<w.heap.size:=(aJ.1 a.box).1
theorem eD.high(c:eD base db self n D k nx d w l bg bc sd sp sv pv lv):∀q,lJ db bg sv pv lv q->base<=q:=by
 intro q a;obtain⟨_,i,j,_⟩:=c.own;have f:∀{b:TypeId}{r o:Nat}{g:av}{p:List av},w.ownsRow base b r g o p->g.ownBlock=some q->base<=q:=λm e=>by
  rcases m.2 with⟨b,_⟩|⟨h,cap,s,b,t,_⟩
  ·rw[b]at e;cases e
  ·rw[b]at e;have:h=q:=aA e;omega
 rcases a with rfl|rfl|a|a|a
 ·exact i
 ·exact j
 ·exact f c.sRow a
 ·exact f c.pRow a
 ·exact f c.lRow a
theorem eD.later(a:eD base db self n D k nx d w l bg bc sd sp sv pv lv){w':ag}(e:ak w w'):eD base db self n D k nx d w' l bg bc sd sp sv pv lv:=by
 have h:=aO e (λ_=>False);have i:=e.size;obtain⟨t,u,v,q,y⟩:=a.own;refine⟨(e.block db a.lt).trans a.box,⟨t,u,v,by omega,by omega⟩,a.bnd,a.tells,λs x r=>?_,λo=>?_,bu a.sRow h λ_ _ g=>g,bu a.pRow h λ_ _ g=>g,bu a.lRow h λ_ _ g=>g,a.sIs,a.pIs,λm j=>?_,λm j=>?_,a.apart,a.few⟩
 ·obtain⟨f,b,c⟩:=a.row s x r;exact⟨f.below e q,(b.below e).mono i,c⟩
 ·exact(e.frozen (p:=⟨bg,o,none⟩) q).trans (a.free o)
 ·obtain⟨f,b,c⟩:=a.sIn m j;exact⟨f,(b.below e).mono i,c⟩
 ·obtain⟨f,b,c⟩:=a.pIn m j;exact⟨f,(b.below e).mono i,c⟩
theorem eD.more(a:eD base db self n D k nx d w l bg bc sd sp sv pv lv){e:Nat}(i:k<=e):eD base db self n D e nx d w l bg bc sd sp sv pv lv:=by
 obtain⟨h,b,c,g,f⟩:=a.few;exact{a with few:=⟨by omega,by omega,by omega,g,f⟩}
theorem eD.lies(a:eD base db self n D k nx d w l bg bc sd sp sv pv lv):fM w.heap.size w (D+1) l (some ⟨bg,0,none⟩):=aj ⟨bg,0,rfl,a.own.2.2.2.1,λi y b=>by
 rw[de]
 exact⟨(a.row i y b).1,(a.row i y b).2.1⟩⟩
theorem eD.value(a:eD base db self n D k nx d w l bg bc sd sp sv pv lv)(x:Tm (n+1))(r:In base w (n+1) x)(g:bE (n+1) x=0)(o:1<=self/\self<=99):∀W,ak w W->am 117 #[aH db,.agg #[ab x.1.1,ab x.1.2.1,af x.1.2.2,ae x.2.1.1 x.2.2.length x.2.1.2]] W (xf (D+1+n) (nZ 0 (vl (D+1) l self (n+1) x)) W):=by
 intro W b;have i:FB (bE (n+1) x) (gn (D+1) l) self=0:=by simp[FB,g,a.bnd,o]
 have f:=(im a.bnd).1;have m:=a.lies;have h:=a.own.2.2.2.2;have q:=zi (D+1+n) 0 (vl (D+1) l self (n+1) x) x.1.1 x.1.2.1 x.1.2.2 x.2.1.1 x.2.2.length x.2.1.2 (some ⟨bg,0,none⟩) bc self db W (aW a.lt b.size) ((b.cell (p:=⟨db,0,none⟩) a.lt).trans (ah a.box 0)) ((b.cell (p:=⟨db,1,none⟩) a.lt).trans (ah a.box 1)) λe j=>by
  have c:=b.trans (j.mono b.size);have:=Ea n (D+1) x l (some ⟨bg,0,none⟩) bc e.heap.size self e ((r.below (c.mono h)).mono (aD h c.size)) (DF m c) (ao _) (fo g) (by rw[f];decide) (λt s=>fo ((im a.bnd).2 t s).1);rw[i,f]at this;exact this
 exact q
theorem eD.process(h:eD base db self n D k nx d w l bg bc sd sp sv pv lv)(x:Tm (n+1))(z:In base w (n+1) x)(j:bE (n+1) x=0)(t:1<=self/\self<=99):∀W,ak w W->am 201 #[aH db,.agg #[ab x.1.1,ab x.1.2.1,af x.1.2.2,ae x.2.1.1 x.2.2.length x.2.1.2]] W λe w'=>∃u,e=.returned (.tuple #[ab u,.bool (nF d.b self (n+1) x).isSome])/\Hid (ak W w'/\∀v,nF d.b self (n+1) x=some v->u=v):=by
 intro W i;have a:=Lj h.bnd h.tells self x j;refine(A1 (D+1+n) _ x.1.1 x.1.2.1 x.1.2.2 x.2.1.1 x.2.2.length x.2.1.2 db W λr s=>h.value x z j t r (i.trans (s.mono i.size))).mono ?_;rintro e w' ⟨u,rfl,o⟩;obtain⟨p,q⟩:=o;have m:Fk (nZ 0 (vl (D+1) l self (n+1) x))=(nF d.b self (n+1) x).isSome/\∀v,nF d.b self (n+1) x=some v->u=v:=by
  unfold nF;rw[<-a];cases e:nZ 0 (vl (D+1) l self (n+1) x)with
  | none=>exact⟨rfl,λv a=>by cases a⟩
  | some c=>
   have A:(cn (D+1+n+1) c).1=c.1:=rfl;have y:=q c e;simp only[ni,dG,Fk];by_cases g:c.1.1=3
   ·have f:(cn (D+1+n+1) c).1.1=3:=g;refine⟨?_,λv a=>?_⟩
    ·erw [if_pos f]
     simp[g]
    ·erw [if_pos f]at a
     rw[y,<-aA a];rfl
   ·have f:¬(cn (D+1+n+1) c).1.1=3:=g;refine⟨?_,λv a=>?_⟩
    ·erw [if_neg f]
     simp[g]
    ·erw [if_neg f]at a
     cases a
 exact⟨u,by rw[m.1],p,m.2⟩
end
section
variable {base db:Nat} {self:Int} {n D k:Nat} {nx:Int} {d:Dg} {w:ag} {l:List (Tm (D+1))} {bg bc:Nat} {sd:List (Int×Tm (D+1+n+1))} {sp:List (Int×ap×Tm (D+1+n+1))} {sv pv lv:av}
def yG(base db:Nat)(self:Int)(n D k:Nat)(nx:Int)(d:Dg)(a:Ac (n+1))(S:aR)(w:ag)(t:Bool)(w':ag):Prop:=
 bB S w w'/\t=(rz self a d).isSome/\∀b,rz self a d=some b->Do base db self n D (k+1) nx b S w w'
theorem mP{w:ag}{base:Nat}{e:TypeId}{g m:Nat}{v:av}{xs:List av}(f:w.ownsRow base e g v m xs):∃a c,v=ae a m c:=by
 rcases f.2 with⟨b,d⟩|⟨i,cap,h,b,_⟩
 ·exact⟨none,0,by rw[b,d]⟩
 ·exact⟨_,cap,b⟩
theorem oG{w:ag}{b:Nat}{v0 v1 v2 v3 a c d:av}{t:TypeId}(e:w.heap[b]?=some (.cells #[v0,v1,v2,v3,a,c,d] t)):(∀v,(w.setCell ⟨b,3,none⟩ v).heap[b]?=some (.cells #[v0,v1,v2,v,a,c,d] t))/\(∀v,(w.setCell ⟨b,4,none⟩ v).heap[b]?=some (.cells #[v0,v1,v2,v3,v,c,d] t))/\(∀v,(w.setCell ⟨b,5,none⟩ v).heap[b]?=some (.cells #[v0,v1,v2,v3,a,v,d] t))/\(∀v,(w.setCell ⟨b,2,none⟩ v).heap[b]?=some (.cells #[v0,v1,v,v3,a,c,d] t))/\∀v,(w.setCell ⟨b,6,none⟩ v).heap[b]?=some (.cells #[v0,v1,v2,v3,a,c,v] t):=by
 refine⟨λv=>?_,λv=>?_,λv=>?_,λv=>?_,λv=>?_⟩<;>
 ·unfold World.setCell;simp[bO,e]
theorem ub{w:ag}{b:Nat}{cs:Array av}{t:TypeId}(a:w.heap[b]?=some (.cells cs t))(j:Nat):w.frozen? ⟨b,j,none⟩=false:=by simp[World.frozen?,a]
theorem eD.frame(c:eD base db self n D k nx d w l bg bc sd sp sv pv lv){w':ag}{j h g:av}(f:bB (lJ db bg sv pv lv) w w')(m:∀q,lJ db bg j h g q->lJ db bg sv pv lv q\/w.heap.size<=q):(∀(i:Nat)(y:Tm (D+1)),l[i]?=some y->In w'.heap.size w' (D+1) y/\cr (Ly base db bg j h g) (D+1) y)/\(∀a∈sd,bE _ a.2=0/\In w'.heap.size w' _ a.2/\cr (Ly base db bg j h g) _ a.2)/\(∀a∈sp,bE _ a.2.2=0/\In w'.heap.size w' _ a.2.2/\cr (Ly base db bg j h g) _ a.2.2)/\Below base w w':=
 ⟨λi y o=>sF f m (c.row i y o).2.1 (c.row i y o).2.2,λa e=>⟨(c.sIn a e).1,sF f m (c.sIn a e).2.1 (c.sIn a e).2.2⟩,λa e=>⟨(c.pIn a e).1,sF f m (c.pIn a e).2.1 (c.pIn a e).2.2⟩,f.below c.own.2.2.2.2 λb p q=>by
  have:=c.high b q
  omega⟩
theorem eD.link(g:eD base db self n D k nx d w l bg bc sd sp sv pv lv)(a:Ac (n+1))(Q:iJ (n+1) base w a)(U:bE (n+1) a.2.1.1=0)(P:a.1=3)(Z:1<=self/\self<=99)(ar:k<=1000):am 188 #[aH db,OS a] w λe w'=>∃t,e=.returned (.bool t)/\Hid (yG base db self n D k nx d a (lJ db bg sv pv lv) w t w'):=by
 have J:=g.lRow;obtain⟨r,s,rfl⟩:=mP J;obtain⟨ao,ap,aq,O⟩:=g.few;have u:rz self a d=(nF d.b self (n+1) a.2.1.1).map λx=>{d with links:=d.links++ [x]}:=by
  simp[rz,P]
 refine(GO a.1 a.2.1.1.1.1 a.2.1.1.1.2.1 a.2.1.1.1.2.2 a.2.1.1.2.1.1 a.2.1.1.2.2.length a.2.1.1.2.1.2 a.2.1.2.1.1 a.2.1.2.1.2.1 a.2.1.2.1.2.2 a.2.1.2.2.1.1 a.2.1.2.2.2.length a.2.1.2.2.1.2 a.2.2.1 a.2.2.2 base db r d.links.length s _ w (nF d.b self (n+1) a.2.1.1).isSome (λx=>∀y,nF d.b self (n+1) a.2.1.1=some y->x=y) (by omega) g.lt g.own.2.2.2.2 ⟨ah g.box 5,ub g.box 5⟩ J g.apart.1.2.2 (g.process a.2.1.1 Q.2.1 U Z)).mono ?_;rintro e w' ⟨rfl,V,v⟩;refine⟨_,rfl,?_⟩;cases hp:nF d.b self (n+1) a.2.1.1 with
 | none=>
  have R:=V (by rw[hp];rfl);refine⟨aO R _,by rw[u,hp];rfl,λN o=>?_⟩;rw[u,hp]at o;cases o
 | some y=>
  obtain⟨x,m,c,z,ab,Y,j,i,rfl⟩:=v (by rw[hp];rfl);obtain rfl:=ab y hp;have T:z.heap[db]?=_:=(j.block db g.lt λf=>g.apart.1.2.2 f).trans g.box;have C:bB (lJ db bg sv pv (ae r d.links.length s)) w (z.setCell ⟨db,5,none⟩ (ae (some ⟨m,0,none⟩) (d.links.length+1) c)):=bB.trans (j.mono λf _ h=>aj (aj (aj (aj h)))) (bH _ _ _ _) λf _ h=>ai h;have p:∀f,f<w.heap.size->¬(Value.slice r d.links.length s).ownBlock=some f->m≠f:=λf h W e=>by
   rcases i with i|i
   ·rw[e]at i;exact W i
   ·omega
  have H:∀f,lJ db bg sv pv (ae (some ⟨m,0,none⟩) (d.links.length+1) c) f->lJ db bg sv pv (ae r d.links.length s) f\/w.heap.size<=f:=λf h=>by
   rcases h with h|h|h|h|h
   ·exact ai (ai h)
   ·exact ai (aj (ai h))
   ·exact ai (aj (aj (ai h)))
   ·exact ai (aj (aj (aj (ai h))))
   ·have:m=f:=aA h;subst this;rcases i with i|i
    ·exact ai (aj (aj (aj (aj i))))
    ·exact aj i
  obtain⟨ak,al,an,aw⟩:=g.frame C H;refine⟨C,by rw[u,hp];rfl,λN o=>?_⟩;rw[u,hp]at o;obtain rfl:=aA o;have au:=C.size;obtain⟨F,af,ag,G,av⟩:=g.own;have q:=bH z db 5 (ae (some ⟨m,0,none⟩) (d.links.length+1) c);have aa:∀f,sv.ownBlock=some f->f<w.heap.size:=λf h=>by
   obtain⟨M,B⟩:=eC g.sRow f h;exact(aJ.1 B).1
  have X:∀f,pv.ownBlock=some f->f<w.heap.size:=λf h=>by
   obtain⟨M,B⟩:=eC g.pRow f h;exact(aJ.1 B).1
  have A:¬(Value.slice r d.links.length s).ownBlock=some bg:=g.apart.2.1.2.2;refine⟨l,bg,bc,sd,sp,sv,pv,_,⟨(oG T).2.2.1 _,⟨F,af,ag,by omega,by omega⟩,g.bnd,g.tells,λK L v=>⟨?_,ak K L v⟩,λad=>?_,?_,?_,?_,g.sIs,g.pIs,al,an,⟨⟨g.apart.1.1,g.apart.1.2.1,?_⟩,⟨g.apart.2.1.1,g.apart.2.1.2.1,?_⟩,λf=>⟨λh=>⟨((g.apart.2.2 f).1 h).1,?_⟩,λh=>?_⟩⟩,⟨by omega,by omega,by simp;omega,O⟩⟩,H⟩
  ·exact((g.row K L v).1.kee j G A).kee q (by have:=j.size;omega) (λe=>F e.symm)
  ·have S:(z.setCell ⟨db,5,none⟩ (ae (some ⟨m,0,none⟩) (d.links.length+1) c)).heap[bg]?=w.heap[bg]? :=(q.block bg (by have:=j.size;omega) (λe=>F e.symm)).trans (j.block bg G A);have I:=g.free ad;unfold World.frozen? at I ⊢;rw[S];exact I
  ·exact bu (bu g.sRow j λf h E=>((g.apart.2.2 f).1 h).2 E) q λf h e=>g.apart.1.1 (by rw[h,e])
  ·exact bu (bu g.pRow j λf h E=>(g.apart.2.2 f).2 h E) q λf h e=>g.apart.1.2.1 (by rw[h,e])
  ·have:=bu Y q λf h e=>p db g.lt g.apart.1.2.2 (by
     have:m=f:=aA h
     rw[this,e])
   simpa using this
  ·exact λe=>p db g.lt g.apart.1.2.2 (aA e)
  ·exact λe=>p bg G A (aA e)
  ·exact λe=>p f (aa f h) (((g.apart.2.2 f).1 h).2) (aA e)
  ·exact λe=>p f (X f h) ((g.apart.2.2 f).2 h) (aA e)
end
section
variable {base db:Nat} {self:Int} {n D k:Nat} {nx:Int} {d:Dg} {w:ag} {l:List (Tm (D+1))} {bg bc:Nat} {sd:List (Int×Tm (D+1+n+1))} {sp:List (Int×ap×Tm (D+1+n+1))} {sv pv lv:av}
theorem MT{N:Nat}{o:Option (Tm N)}{c:Tm N}(a:nZ 0 o=some c):bE N c=0:=by
 unfold nZ at a;rw[if_pos rfl]at a;obtain⟨d,_,a⟩:=bC.1 a;by_cases b:bE N d=0
 ·rw[if_pos b]at a;rw[<-aA a];exact b
 ·rw[if_neg b]at a;cases a
theorem eD.told(e:eD base db self n D k nx d w l bg bc sd sp sv pv lv)(x:Tm (n+1))(h:bE (n+1) x=0):(nZ 0 (vl (D+1) l self (n+1) x)).isSome=(sT d.b self (n+1) x).isSome/\∀(a:Tm (D+1+n+1)) t,sT d.b self (n+1) x=some t->aB _ a (D+1+n+1) ((nZ 0 (vl (D+1) l self (n+1) x)).getD (wG (D+1+n)))=true->bE _ a=0/\aS _ a=true/\cn _ a=t:=by
 have m:=Lj e.bnd e.tells self x h;refine⟨by rw[<-m,Option.isSome_map],λa t f c=>?_⟩;have p:=OM (KG e.bnd e.tells) h f;rw[<-m]at f;obtain⟨q,o,rfl⟩:=cw.1 f;rw[o]at c;have c:aB _ a _ q=true:=c;have i:=(bV c).trans (MT o);have j:=io c;refine⟨i,?_,j⟩;have g:=p.2.1;rw[<-j,mu i]at g;exact g
theorem eD.send(h:eD base db self n D k nx d w l bg bc sd sp sv pv lv)(a:Ac (n+1))(P:iJ (n+1) base w a)(af:bE (n+1) a.2.1.1=0)(Q:bE (n+1) a.2.1.2=0)(aa:a.1=1)(V:1<=self/\self<=99)(aG:k<=1000):am 186 #[aH db,OS a] w λe w'=>∃t,e=.returned (.bool t)/\Hid (yG base db self n D k nx d a (lJ db bg sv pv lv) w t w'):=by
 have U:=h.sRow;obtain⟨y,z,rfl⟩:=mP U;obtain⟨aD,aE,aF,Z⟩:=h.few;have s:rz self a d=(nF d.b self (n+1) a.2.1.1).bind λx=>(sT d.b self (n+1) a.2.1.2).map λt=>{d with sends:=d.sends++ [(x,t)]}:=by
  simp[rz,aa]
 obtain⟨al,an⟩:=h.told (self:=self) a.2.1.2 Q;refine(Hy (D+1+n) a.1 a.2.1.1.1.1 a.2.1.1.1.2.1 a.2.1.1.1.2.2 a.2.1.1.2.1.1 a.2.1.1.2.2.length a.2.1.1.2.1.2 a.2.1.2.1.1 a.2.1.2.1.2.1 a.2.1.2.1.2.2 a.2.1.2.2.1.1 a.2.1.2.2.2.length a.2.1.2.2.1.2 a.2.2.1 a.2.2.2 base db y sd.length z _ w (nF d.b self (n+1) a.2.1.1).isSome (λx=>∀A,nF d.b self (n+1) a.2.1.1=some A->x=A) (nZ 0 (vl (D+1) l self (n+1) a.2.1.2)) (by omega) h.lt h.own.2.2.2.2 ⟨ah h.box 3,ub h.box 3⟩ U h.apart.1.1 (h.process a.2.1.1 P.2.1 af V) (h.value a.2.1.2 P.2.2.1 Q V)).mono ?_;rintro e w' ⟨rfl,K,i⟩;refine⟨_,rfl,?_⟩;rw[al]at K i ⊢;cases hp:nF d.b self (n+1) a.2.1.1 with
 | none=>
  have E:=K (by rw[hp];rfl);refine⟨aO E _,by rw[s,hp];rfl,λN p=>?_⟩;rw[s,hp]at p;cases p
 | some A=>
  cases g:sT d.b self (n+1) a.2.1.2 with
  | none=>
   have E:=K (by rw[hp,g];rfl);refine⟨aO E _,by rw[s,hp,g];rfl,λN p=>?_⟩;rw[s,hp,g]at p;cases p
  | some t=>
   obtain⟨x,r,j,c,B,ao,au,aq,W,ak,q,m,rfl⟩:=i (by rw[hp,g];rfl);obtain rfl:=ao A hp;obtain⟨ap,_,av⟩:=an r t g au;have ad:B.heap[db]?=_:=(q.block db h.lt λf=>h.apart.1.1 f).trans h.box;have I:bB (lJ db bg (ae y sd.length z) pv lv) w (B.setCell ⟨db,3,none⟩ (ae (some ⟨j,0,none⟩) (sd.length+1) c)):=bB.trans (q.mono λf _ g=>aj (aj (ai g))) (bH _ _ _ _) λf _ g=>ai g;have v:∀f,f<w.heap.size->¬(Value.slice y sd.length z).ownBlock=some f->j≠f:=λf g ag e=>by
    rcases m with m|m
    ·rw[e]at m;exact ag m
    ·omega
   have O:∀f,lJ db bg (ae (some ⟨j,0,none⟩) (sd.length+1) c) pv lv f->lJ db bg (ae y sd.length z) pv lv f\/w.heap.size<=f:=λf g=>by
    rcases g with g|g|g|g|g
    ·exact ai (ai g)
    ·exact ai (aj (ai g))
    ·have:j=f:=aA g;subst this;rcases m with m|m
     ·exact ai (aj (aj (ai m)))
     ·exact aj m
    ·exact ai (aj (aj (aj (ai g))))
    ·exact ai (aj (aj (aj (aj g))))
   obtain⟨az,aB,aC,aM⟩:=h.frame I O;refine⟨I,by rw[s,hp,g];rfl,λN p=>?_⟩;rw[s,hp,g]at p;obtain rfl:=aA p;have aI:=I.size;have aK:=q.size;obtain⟨L,ax,ay,M,aL⟩:=h.own;have u:=bH B db 3 (ae (some ⟨j,0,none⟩) (sd.length+1) c);have S:∀f,lv.ownBlock=some f->f<w.heap.size:=λf g=>by
    obtain⟨Y,G⟩:=eC h.lRow f g;exact(aJ.1 G).1
   have T:∀f,pv.ownBlock=some f->f<w.heap.size:=λf g=>by
    obtain⟨Y,G⟩:=eC h.pRow f g;exact(aJ.1 G).1
   have F:¬(Value.slice y sd.length z).ownBlock=some bg:=h.apart.2.1.1;have ar:cr (Ly base db bg (ae (some ⟨j,0,none⟩) (sd.length+1) c) pv lv) _ r:=W.mono λf g=>by
    have:=h.lt;refine⟨by omega,λo=>?_⟩;rcases o with o|o|o|o|o
    ·omega
    ·omega
    ·exact g.2 (aA o).symm
    ·have:=T f o;omega
    ·have:=S f o;omega
   refine⟨l,bg,bc,sd++ [(x,r)],sp,_,pv,lv,⟨(oG ad).1 _,⟨L,ax,ay,by omega,by omega⟩,h.bnd,h.tells,λX C i=>⟨?_,az X C i⟩,λaw=>?_,?_,?_,?_,?_,h.pIs,λC i=>?_,aC,⟨⟨?_,h.apart.1.2.1,h.apart.1.2.2⟩,⟨?_,h.apart.2.1.2.1,h.apart.2.1.2.2⟩,λf=>⟨λg=>⟨λe=>?_,λe=>?_⟩,(h.apart.2.2 f).2⟩⟩,⟨by simp;omega,by omega,by show d.links.length<=k+1;omega,Z⟩⟩,O⟩
   ·exact((h.row X C i).1.kee q M F).kee u (by omega) (λe=>L e.symm)
   ·have ab:(B.setCell ⟨db,3,none⟩ (ae (some ⟨j,0,none⟩) (sd.length+1) c)).heap[bg]?=w.heap[bg]? :=(u.block bg (by omega) (λe=>L e.symm)).trans (q.block bg M F);have R:=h.free aw;unfold World.frozen? at R ⊢;rw[ab];exact R
   ·have:=bu ak u λf g e=>v db h.lt h.apart.1.1 (by
      have:j=f:=aA g
      rw[this,e])
    simpa using this
   ·exact bu (bu h.pRow q λf g J=>((h.apart.2.2 f).1 J).1 g) u λf g e=>h.apart.1.2.1 (by rw[g,e])
   ·exact bu (bu h.lRow q λf g J=>((h.apart.2.2 f).1 J).2 g) u λf g e=>h.apart.1.2.2 (by rw[g,e])
   ·simp[h.sIs,av]
   ·rcases dr.1 i with i|i
    ·exact aB C i
    ·obtain rfl:=dS.1 i;refine⟨ap,?_,ar⟩;refine aq.kee u (W.mono λf g e=>?_);have:=h.lt;omega
   ·exact λe=>v db h.lt h.apart.1.1 (aA e)
   ·exact λe=>v bg M F (aA e)
   ·have H:j=f:=aA g;exact v f (T f e) (λr=>((h.apart.2.2 f).1 r).1 e) H
   ·have H:j=f:=aA g;exact v f (S f e) (λr=>((h.apart.2.2 f).1 r).2 e) H
end
theorem ot(w:ag)(g o:Nat)(v0 v1 v2 v3:av):bB (λb=>b=g) w (di w g o v0 v1 v2 v3):=
 bB.trans (bB.trans (bB.trans (bH w g o v0) (bH _ g (o+1) v1) λ_ _ a=>a) (bH _ g (o+2) v2) λ_ _ a=>a) (bH _ g (o+3) v3) λ_ _ a=>a
theorem BU(j:Nat)(a:j<o\/o+4<=j):(di w g o v0 v1 v2 v3).cell? ⟨g,j,none⟩=w.cell? ⟨g,j,none⟩:=by
 unfold di;rw[dE j (by omega),dE j (by omega),dE j (by omega),dE j (by omega)]
theorem xS{f h i j:av}(v0 v1 v2 v3:av)(a:w.cell? ⟨g,o,none⟩=some f/\w.cell? ⟨g,o+1,none⟩=some h/\w.cell? ⟨g,o+2,none⟩=some i/\w.cell? ⟨g,o+3,none⟩=some j):(di w g o v0 v1 v2 v3).cell? ⟨g,o,none⟩=some v0/\(di w g o v0 v1 v2 v3).cell? ⟨g,o+1,none⟩=some v1/\(di w g o v0 v1 v2 v3).cell? ⟨g,o+2,none⟩=some v2/\(di w g o v0 v1 v2 v3).cell? ⟨g,o+3,none⟩=some v3:=by
 obtain⟨b,c,d,e⟩:=a;unfold di;refine⟨?_,?_,?_,?_⟩
 ·rw[dE o (by omega),dE o (by omega),dE o (by omega)];exact ic _ _ _ b
 ·rw[dE (o+1) (by omega),dE (o+1) (by omega)];exact ic _ _ _ ((dE (o+1) (by omega)).trans c)
 ·rw[dE (o+2) (by omega)];exact ic _ _ _ ((dE (o+2) (by omega)).trans ((dE (o+2) (by omega)).trans d))
 ·exact ic _ _ _ ((dE (o+3) (by omega)).trans ((dE (o+3) (by omega)).trans ((dE (o+3) (by omega)).trans e)))
theorem tu(j:Nat):(di w g o v0 v1 v2 v3).frozen? ⟨g,j,none⟩=w.frozen? ⟨g,j,none⟩:=by
 unfold di;rw[gN,gN,gN,gN]
theorem Gk(w:ag)(p:Addr):w.drew.cell? p=w.cell? p:=rfl
theorem A2(w:ag)(p:Addr):w.drew.frozen? p=w.frozen? p:=rfl
theorem dH.far{x:Tm n}(b:dH w g o n x)(a:∀j,o<=j->j<o+4->w'.cell? ⟨g,j,none⟩=w.cell? ⟨g,j,none⟩):dH w' g o n x:=by
 cases n with
 | zero=>exact b.elim
 | succ n=>
  obtain⟨c,d,e,f⟩:=b;exact⟨(a _ (by omega) (by omega)).trans c,(a _ (by omega) (by omega)).trans d,(a _ (by omega) (by omega)).trans e,(a _ (by omega) (by omega)).trans f⟩
theorem Ot(u:Int)(D:Nat)(g:1<=u/\u<=99):BM (D+1) (bT 3 u D)=true/\cn (D+1) (bT 3 u D)=DY u:=by
 refine⟨?_,rfl⟩;have e:ch (D+1) (bT 3 u D)=true:=by
  rw[<-aT];intro a b;have:a=((3,u,.empty),(none,0,0)):=by simpa [aC,bT]using b
  subst this;have f:qP u 1 99=true:=by simp[qP];omega
  simp[cJ,f]
 have c:bE (D+1) (bT 3 u D)=0:=bG.2 ⟨e,by simp[fI,bT],by simp[sz,bT]⟩;have d:aS (D+1) (bT 3 u D)=true:=by simp[aS,bT]
 simp only[BM,c,aK,iB];refine⟨rfl,aj ?_⟩;rw[<-fF];exact d
theorem LV{l:List (Tm D)}(a:gn D l=true)(i:Nat){y:Tm D}(c:BM D y=true):gn D (l.set i y)=true:=by
 simp only[gn,List.length_set,aK,co,cu]at a ⊢;refine⟨a.1,λd b=>?_⟩;rcases sY b with b|rfl
 ·exact a.2 d b
 ·exact c
section
variable {base db:Nat} {self:Int} {n D k:Nat} {nx:Int} {d:Dg} {w:ag} {l:List (Tm (D+1))} {bg bc:Nat} {sd:List (Int×Tm (D+1+n+1))} {sp:List (Int×ap×Tm (D+1+n+1))} {sv pv lv:av}
theorem eD.spawn(h:eD base db self n D k nx d w l bg bc sd sp sv pv lv)(a:Ac (n+1))(aQ:iJ (n+1) base w a)(ak:bE (n+1) a.2.1.2=0)(aP:a.1=2)(a0:dV a.2.2.1=true)(bx:0<=a.2.2.2/\a.2.2.2<4)(a2:1<=self/\self<=99)(bq:k<=7):am 187 #[aH db,OS a] w λe w'=>∃t,e=.returned (.bool t)/\Hid (yG base db self n D k nx d a (lJ db bg sv pv lv) w t w'):=by
 have au:=h.pRow;obtain⟨M,N,rfl⟩:=mP au;obtain⟨bl,bm,bn,bo,aL,aN⟩:=h.few;obtain⟨m,Y⟩:∃m:Nat,a.2.2.2=(m:Int):=⟨a.2.2.2.toNat,by omega⟩;have a5:m<4:=by omega
 have bp:=(im h.bnd).1;obtain⟨p,ay⟩:∃p,l[m]?=some p:=⟨l[m]'(by omega),aM _⟩;obtain⟨y1,y2,bF⟩:=h.row m p ay;have aT:d.b[m]?=some (cn (D+1) p):=by rw[<-h.tells,dy,ay];rfl
 have F:rz self a d=(sT d.b self (n+1) a.2.1.2).bind λt=>if p.1.1=6 then some {d with b:=d.b.set m (DY d.next),next:=d.next+1,spawns:=d.spawns++ [(d.next,a.2.2.1,t)]}else none:=by
  have aX:b8 ⟨13,(d.b[a.2.2.2.toNat]?).getD (DY 0)⟩=p.1.1:=by
   rw[Y,Int.toNat_natCast,aT];rfl
  have aY:¬a.1=1:=by omega
  unfold rz;rw[if_neg aY,if_pos aP,aX,Y,Int.toNat_natCast]
 obtain⟨a3,a4⟩:=h.told (self:=self) a.2.1.2 ak
 have q:=Em (D+1+n) a.1 a.2.1.1.1.1 a.2.1.1.1.2.1 a.2.1.1.1.2.2 a.2.1.1.2.1.1 a.2.1.1.2.2.length a.2.1.1.2.1.2 a.2.1.2.1.1 a.2.1.2.1.2.1 a.2.1.2.1.2.2 a.2.1.2.2.1.1 a.2.1.2.2.2.length a.2.1.2.2.1.2 a.2.2.1 m base db M sp.length N _ w (nZ 0 (vl (D+1) l self (n+1) a.2.1.2)) bg bc d.next p.1.1 p.1.2.1 p.1.2.2 p.2.1.1 p.2.2.length p.2.1.2 a5 (by omega) h.lt h.own.2.2.2.1 h.own.1 h.own.2.2.2.2 (by omega) (by omega) (by
   simp only[dV,qP,aK,co]at a0
   omega)
  ⟨ah h.box 4,ah h.box 0,ah h.box 2,λj=>ub h.box j,h.free⟩ au ⟨h.apart.1.2.1,h.apart.2.1.2.1⟩ y1 (λaD=>jA _ _ _ _ _ _ aD) (h.value a.2.1.2 aQ.2.2.1 ak a2)
 rw[<-Y]at q;refine q.mono ?_;rintro e w' ⟨rfl,X,az⟩;refine⟨_,rfl,?_⟩;rw[a3]at X az ⊢;cases f:sT d.b self (n+1) a.2.1.2 with
 | none=>
  have T:=X (by rw[f];rfl);refine⟨aO T _,by rw[F,f];rfl,λS r=>?_⟩;rw[F,f]at r;cases r
 | some t=>
  by_cases E:p.1.1=6;rotate_left
  ·have T:=X (by rw[f];simp[E]);refine⟨aO T _,by rw[F,f];simp[E],λS r=>?_⟩;rw[F,f]at r;simp[E]at r
  ·obtain⟨y,g,c,aB,x,C,bb,a9,Q,a1,A,s,ax,Z,aw⟩:=az (by rw[f];simp[E]);obtain⟨a6,_,bd⟩:=a4 y t f bb;have aR:aB.heap[db]?=_:=(A.block db h.lt λi=>h.apart.1.2.1 i).trans h.box;obtain⟨G,be,bf,R,bC⟩:=h.own;have bw:=A.size;have U:=(oG aR).2.1 (ae (some ⟨g,0,none⟩) (sp.length+1) c);rw[<-ax]at U;have u:bB (λb=>b=db) aB x:=by rw[ax];exact bH _ _ _ _
   have B:bB (λb=>b=bg) x C:=by
    rw[Z];exact bB.trans (ot x bg (m*4) _ _ _ _) (aO ((aq _ _).drew) _) λ_ _ e=>e
   have aS:C.heap[db]?=_:=(B.block db (aJ.1 U).1 G).trans U;have v:bB (λb=>b=db) C w':=by rw[aw];exact bH _ _ _ _
   have ag:=(oG aS).2.2.2.1 (ab (d.next+1));rw[<-aw]at ag;have bs:=u.size;have bt:=B.size;have bv:=v.size;have ao:bB (lJ db bg sv (ae M sp.length N) lv) w w':=bB.trans (bB.trans (bB.trans (A.mono λi _ f=>aj (aj (aj (ai f)))) u λi _ f=>ai f) B λi _ f=>aj (ai f)) v λi _ f=>ai f;have z:∀i,i<w.heap.size->¬(Value.slice M sp.length N).ownBlock=some i->g≠i:=λi f aZ e=>by
    rcases s with s|s
    ·rw[e]at s;exact aZ s
    ·omega
   have ad:∀i,lJ db bg sv (ae (some ⟨g,0,none⟩) (sp.length+1) c) lv i->lJ db bg sv (ae M sp.length N) lv i\/w.heap.size<=i:=λi f=>by
    rcases f with f|f|f|f|f
    ·exact ai (ai f)
    ·exact ai (aj (ai f))
    ·exact ai (aj (aj (ai f)))
    ·have:g=i:=aA f;subst this;rcases s with s|s
     ·exact ai (aj (aj (aj (ai s))))
     ·exact aj s
    ·exact ai (aj (aj (aj (aj f))))
   obtain⟨bh,bi,bj,bD⟩:=h.frame ao ad;refine⟨ao,by rw[F,f];simp[E],λS r=>?_⟩;rw[F,f]at r;have r:some {d with b:=d.b.set m (DY d.next),next:=d.next+1,spawns:=d.spawns++ [(d.next,a.2.2.1,t)]}=some S:=by simpa [E]using r
   obtain rfl:=aA r;have ap:∀i,lv.ownBlock=some i->i<w.heap.size:=λi f=>by
    obtain⟨aE,V⟩:=eC h.lRow i f;exact(aJ.1 V).1
   have av:∀i,sv.ownBlock=some i->i<w.heap.size:=λi f=>by
    obtain⟨aE,V⟩:=eC h.sRow i f;exact(aJ.1 V).1
   have O:¬(Value.slice M sp.length N).ownBlock=some bg:=h.apart.2.1.2.1;have ba:cr (Ly base db bg sv (ae (some ⟨g,0,none⟩) (sp.length+1) c) lv) _ y:=Q.mono λi f=>by
    have:=h.lt;refine⟨by omega,λq=>?_⟩;rcases q with q|q|q|q|q
    ·omega
    ·omega
    ·have:=av i q;omega
    ·exact f.2 (aA q).symm
    ·have:=ap i q;omega
   have ar:=Ot d.next D (by omega)
   -- the row of what is bound
   have H:∀j,x.cell? ⟨bg,j,none⟩=w.cell? ⟨bg,j,none⟩:=λj=>(u.cell j (by omega) (λe=>G e.symm)).trans (A.cell j R O);have J:∀j,w'.cell? ⟨bg,j,none⟩=C.cell? ⟨bg,j,none⟩:=λj=>v.cell j (by omega) (λe=>G e.symm);have I:∀j,C.cell? ⟨bg,j,none⟩=(di x bg (m*4) (ab 3) (ab d.next) (af ⟨#[]⟩) (ae none 0 0)).cell? ⟨bg,j,none⟩:=λj=>by
    rw[Z,Gk]
   have aU:∀j,j<m*4\/m*4+4<=j->w'.cell? ⟨bg,j,none⟩=w.cell? ⟨bg,j,none⟩:=λj aW=>by
    rw[J,I,BU j aW];exact H j
   have P:=xS (w:=x) (g:=bg) (o:=m*4) (ab 3) (ab d.next) (af ⟨#[]⟩) (ae none 0 0) ⟨(H _).trans y1.1,(H _).trans y1.2.1,(H _).trans y1.2.2.1,(H _).trans y1.2.2.2⟩;refine⟨l.set m (bT 3 d.next D),bg,bc,sd,sp++ [(d.next,a.2.2.1,y)],sv,_,lv,⟨ag,⟨G,be,bf,by omega,by omega⟩,LV h.bnd m ar.1,?_,λaa aC L=>?_,λj=>?_,?_,?_,?_,h.sIs,?_,bi,λbk K=>?_,⟨⟨h.apart.1.1,?_,h.apart.1.2.2⟩,⟨h.apart.2.1.1,?_,h.apart.2.1.2.2⟩,λi=>⟨λf=>⟨λe=>?_,((h.apart.2.2 i).1 f).2⟩,λf e=>?_⟩⟩,⟨by omega,by simp;omega,by show d.links.length<=k+1;omega,by show d.next+1=nx+((sp++ [(d.next,a.2.2.1,y)]).length:Nat);simp;omega,aL,aN⟩⟩,ad⟩
   ·rw[List.map_set,h.tells,ar.2]
   ·by_cases al:m=aa
    ·subst al;rw[List.getElem?_set_self (by omega)]at L;obtain rfl:=aA L;have an:=lA D 3 d.next (by unfold dC;omega) (by unfold dC;omega) w'.heap.size w' (Ly base db bg sv (ae (some ⟨g,0,none⟩) (sp.length+1) c) lv);refine⟨⟨?_,?_,?_,?_⟩,an.1,an.2⟩
     ·rw[J,I];exact P.1
     ·rw[J,I];exact P.2.1
     ·rw[J,I];exact P.2.2.1
     ·rw[J,I];exact P.2.2.2
    ·rw[List.getElem?_set_ne al]at L;exact⟨(h.row aa aC L).1.far λj bz bA=>aU j (by omega),bh aa aC L⟩
   ·have aI:w'.frozen? ⟨bg,j,none⟩=C.frozen? ⟨bg,j,none⟩:=by
      unfold World.frozen?;rw[v.block bg (by omega) (λe=>G e.symm)]
    have aG:C.frozen? ⟨bg,j,none⟩=x.frozen? ⟨bg,j,none⟩:=by
     rw[Z,A2,tu]
    have aF:x.frozen? ⟨bg,j,none⟩=w.frozen? ⟨bg,j,none⟩:=by
     unfold World.frozen?;rw[u.block bg (by omega) (λe=>G e.symm),A.block bg R O]
    rw[aI,aG,aF];exact h.free j
   ·refine bu (bu (bu (bu h.sRow A λi f W=>((h.apart.2.2 i).1 f).1 W) u λi f e=>h.apart.1.1 (by rw[f,e])) B λi f e=>h.apart.2.1.1 (by rw[f,e])) v λi f e=>h.apart.1.1 (by rw[f,e])
   ·have:=bu (bu (bu a1 u λi f e=>z db h.lt h.apart.1.2.1 (by
      have:g=i:=aA f
      rw[this,e])) B λi f e=>z bg R O (by
      have:g=i:=aA f
      rw[this,e])) v λi f e=>z db h.lt h.apart.1.2.1 (by
      have:g=i:=aA f
      rw[this,e])
    simpa using this
   ·refine bu (bu (bu (bu h.lRow A λi f W=>(h.apart.2.2 i).2 W f) u λi f e=>h.apart.1.2.2 (by rw[f,e])) B λi f e=>h.apart.2.1.2.2 (by rw[f,e])) v λi f e=>h.apart.1.2.2 (by rw[f,e])
   ·simp[h.pIs,bd]
   ·rcases dr.1 K with K|K
    ·exact bj bk K
    ·obtain rfl:=dS.1 K;have br:=h.lt;have a7:=a9.kee u (Q.mono λi f e=>by omega);have a8:=a7.kee B (Q.mono λi f e=>by omega);exact⟨a6,a8.kee v (Q.mono λi f e=>by omega),ba⟩
   ·exact λe=>z db h.lt h.apart.1.2.1 (aA e)
   ·exact λe=>z bg R O (aA e)
   ·exact z i (av i f) (λy=>((h.apart.2.2 i).1 f).1 y) (aA e)
   ·have aV:g=i:=aA f;exact z i (ap i e) (λy=>(h.apart.2.2 i).2 y e) aV
end
def NI{n:Nat}(a:Ac (n+1)):Prop:=nW (n+1) a=true/\(a.1=1\/a.1=3->bE (n+1) a.2.1.1=0)/\(a.1=1\/a.1=2->bE (n+1) a.2.1.2=0)
theorem qr(self:Int){n:Nat}:(p q:List (Ac (n+1)))->(d:Dg)->qq self (p++q) d=(qq self p d).bind (qq self q)
 | [],_,_=>rfl
 | a::p,q,d=>by
  simp only[eL,qq];cases rz self a d with
  | none=>rfl
  | some b=>exact qr self p q b
theorem Jz(self:Int){l:List (Ac (n+1))}{a:Ac (n+1)}(b:l[i]?=some a)(d:Dg):qq self (l.take (i+1)) d=(qq self (l.take i) d).bind (rz self a):=by
 rw[dz,b,qr];congr 1;funext x;show qq self [a] x=rz self a x;simp only[qq];cases rz self a x<;>rfl
theorem Jw(self:Int){l:List (Ac (n+1))}{d:Dg}(a:qq self (l.take i) d=none):qq self l d=none:=by
 rw[<-gZ i l,qr,a];rfl
section
variable {base db:Nat} {self:Int} {n D k:Nat} {nx:Int} {d:Dg} {w:ag} {l:List (Tm (D+1))} {bg bc:Nat} {sd:List (Int×Tm (D+1+n+1))} {sp:List (Int×ap×Tm (D+1+n+1))} {sv pv lv:av}
theorem yG.from{a:Ac (n+1)}{S:aR}{W w':ag}{t:Bool}(b:yG base db self n D k nx d a S W t w')(c:ak w W):yG base db self n D k nx d a S w t w':=⟨(aO c S).trans b.1 λ_ _ e=>e,b.2.1,λh l=>by
 obtain⟨o,g,f,s,u,v,r,p,i,j⟩:=b.2.2 h l;refine⟨o,g,f,s,u,v,r,p,i,λq m=>?_⟩;rcases j q m with e|e
 ·exact ai e
 ·have:=c.size
  exact aj (by omega)⟩
theorem iJ.later{B:Nat}{a:Ac (n+1)}{W:ag}(b:iJ (n+1) B w a)(c:Below B w W):iJ (n+1) B W a:=⟨b.1,b.2.1.below c,b.2.2.1.below c,b.2.2.2⟩
theorem eD.stop(a:eD base db self n D k nx d w l bg bc sd sp sv pv lv):Do base db self n D (k+1) nx {d with stops:=true} (lJ db bg sv pv lv) w (w.setCell ⟨db,6,none⟩ (.bool true))/\bB (lJ db bg sv pv lv) w (w.setCell ⟨db,6,none⟩ (.bool true)):=by
 have e:=bH w db 6 (.bool true);obtain⟨t,u,v,C⟩:=a.frame (w':=w.setCell ⟨db,6,none⟩ (.bool true)) (e.mono λf _ b=>ai b) λf c=>ai c;obtain⟨g,r,s,m,B⟩:=a.own;have A:=e.size;obtain⟨x,y,z,p⟩:=a.few;refine⟨⟨l,bg,bc,sd,sp,sv,pv,lv,⟨(oG a.box).2.2.2.2 _,⟨g,r,s,by omega,by omega⟩,a.bnd,a.tells,λj o i=>⟨(a.row j o i).1.kee e m (λb=>g b.symm),t j o i⟩,λq=>?_,bu a.sRow e λf c b=>a.apart.1.1 (by rw[c,b]),bu a.pRow e λf c b=>a.apart.1.2.1 (by rw[c,b]),bu a.lRow e λf c b=>a.apart.1.2.2 (by rw[c,b]),a.sIs,a.pIs,u,v,a.apart,⟨by omega,by omega,by show d.links.length<=k+1;omega,p⟩⟩,λf c=>ai c⟩,e.mono λf _ b=>ai b⟩;have h:=a.free q;unfold World.frozen? at h ⊢;rw[e.block bg m (λb=>g b.symm)];exact h
theorem eD.one(c:eD base db self n D k nx d w l bg bc sd sp sv pv lv)(a:Ac (n+1))(m:iJ (n+1) base w a)(A:NI a)(p:1<=self/\self<=99)(y:k<=7):am 154 #[aH db,OS a] w λe w'=>∃t,e=.returned (.bool t)/\Hid (yG base db self n D k nx d a (lJ db bg sv pv lv) w t w'):=by
 obtain⟨f,r,s⟩:=A;have o:=c.own.2.2.2.2;refine Ko a.1 a.2.1.1.1.1 a.2.1.1.1.2.1 a.2.1.1.1.2.2 a.2.1.1.2.1.1 a.2.1.1.2.2.length a.2.1.1.2.1.2 a.2.1.2.1.1 a.2.1.2.1.2.1 a.2.1.2.1.2.2 a.2.1.2.2.1.1 a.2.1.2.2.2.length a.2.1.2.2.1.2 a.2.2.1 a.2.2.2 db w (yG base db self n D k nx d a (lJ db bg sv pv lv) w) c.lt ⟨d.stops,ah c.box 6,ub c.box 6⟩ ?_ ?_ ?_ ?_
 ·intro i h b;refine((c.later b).send a (m.later (b.mono o)) (r (ai i)) (s (ai i)) i p (by omega)).mono ?_;rintro e w' ⟨t,rfl,g⟩;exact⟨t,rfl,g.from b⟩
 ·intro j h b;have x:dV a.2.2.1=true/\0<=a.2.2.2/\a.2.2.2<4:=by
   have z:¬a.1=1:=by omega
   unfold nW at f;rw[if_neg z,if_pos j]at f;simp only[aK,co]at f;exact⟨f.1.1.2,f.1.2,f.2⟩
  refine((c.later b).spawn a (m.later (b.mono o)) (s (aj j)) j x.1 x.2 p y).mono ?_;rintro e w' ⟨t,rfl,g⟩;exact⟨t,rfl,g.from b⟩
 ·intro q h b;refine((c.later b).link a (m.later (b.mono o)) (r (aj q)) q p (by omega)).mono ?_;rintro e w' ⟨t,rfl,g⟩;exact⟨t,rfl,g.from b⟩
 ·intro B C E h b;have u:rz self a d=some {d with stops:=true}:=by
   unfold rz;rw[if_neg B,if_neg C,if_neg E]
  obtain⟨F,G⟩:=(c.later b).stop;refine yG.from ⟨G,by rw[u];rfl,λH v=>?_⟩ b;rw[u]at v;obtain rfl:=aA v;exact F
theorem eD.all(H:eD base db self n D 0 nx d w l bg bc sd sp sv pv lv)(ac:List (Ac (n+1)))(L:aw)(U:Nat)(O:qi base w 11 (gi (n+1)) (iJ (n+1) base w) L ac)(ad:∀a∈ac,NI a)(X:ac.length<=8)(af:1<=self/\self<=99):am 116 #[aH db,ae L ac.length U] w λe w'=>∃t,e=.returned (.bool t)/\Hid (bB (lJ db bg sv pv lv) w w'/\t=(qq self ac d).isSome/\∀g,qq self ac d=some g->Do base db self n D 8 nx g (lJ db bg sv pv lv) w w'):=by
 have ab:=H.own.2.2.2.2;have R:∀{c:ag},bB (lJ db bg sv pv lv) w c->Below base w c:=λj=>j.below ab λb Y k=>by
  have:=H.high b k;omega
 refine(I5 ac L ac.length U db w (λi c=>bB (lJ db bg sv pv lv) w c/\∃g,qq self (ac.take i) d=some g/\Do base db self n D i nx g (lJ db bg sv pv lv) w c) (λc=>bB (lJ db bg sv pv lv) w c/\qq self ac d=none) (by omega) rfl ?_ ?_ ?_ ?_).mono ?_
 ·rintro i a c h ⟨j,_⟩;rcases O with e|⟨b,o,e,S,J⟩
  ·rw[e]at h;simp at h
  ·exact⟨b,o,e,λT ay aa=>((R j).cell (p:=⟨b,o+i*11+T,none⟩) S).trans ((J i a h).1 T ay aa)⟩
 ·rintro i c az ⟨j,g,I,z,x,v,C,E,F,B,A,q,m⟩ N;exact⟨j.trans (aO N (λ_=>False)) λ_ _ e=>e.elim,g,I,z,x,v,C,E,F,B,A,q.later N,m⟩
 ·rintro i a c h ⟨j,g,I,z,x,v,C,E,F,B,A,q,m⟩;have aB:=(aX.1 h).1;have Z:iJ (n+1) base c a:=by
   rcases O with e|⟨b,o,e,S,J⟩
   ·rw[e]at h;simp at h
   ·exact((J i a h).2).later (R j)
  refine(q.one a Z (ad a (aN h)) af (by omega)).mono ?_;rintro e w' ⟨t,rfl,u⟩;obtain⟨s,f,M⟩:=u.out;have y:=Jz self h d;rw[I]at y;simp only[dG]at y;have Q:bB (lJ db bg sv pv lv) w w':=j.trans s λb Y k=>by
   rcases m b k with e|e
   ·exact e
   ·omega
  refine⟨t,rfl,λak=>⟨Q,?_⟩,λah=>⟨Q,?_⟩⟩
  ·rw[ak]at f;obtain⟨G,r⟩:=fA.1 f.symm;obtain⟨ap,W,V,au,av,ax,ar,aq,al,an⟩:=M G r;refine⟨G,by rw[y,r],ap,W,V,au,av,ax,ar,aq,al,λk K=>?_⟩;rcases an k K with e|e
   ·exact m k e
   ·have:=j.size;exact aj (by omega)
  ·rw[ah]at f;refine Jw self (i:=i+1) ?_;rw[y];exact kS.1 (by rw[<-kT,<-f];rfl)
 ·exact⟨bB.refl _ _,d,rfl,l,bg,bc,sd,sp,sv,pv,lv,H,λk K=>ai K⟩
 ·rintro e w' ⟨t,rfl,u⟩;refine⟨t,rfl,?_⟩;cases t
  ·obtain⟨s,f⟩:=u.out.2 rfl;refine⟨s,by rw[f];rfl,λg P=>?_⟩;rw[f]at P;cases P
  ·obtain⟨s,g,f,M⟩:=u.1 rfl;rw[bF (ao _)]at f;refine⟨s,by rw[f];rfl,λG r=>?_⟩;rw[f]at r;obtain rfl:=aA r;obtain⟨z,x,v,C,E,F,B,A,q,m⟩:=M;exact⟨z,x,v,C,E,F,B,A,q.more X,m⟩
end
theorem Ft(N:Nat):bE (N+1) (bT 1 0 N)=0/\aS (N+1) (bT 1 0 N)=true/\sz (N+1) (bT 1 0 N)=0:=by
 have c:ch (N+1) (bT 1 0 N)=true:=by
  rw[<-aT];intro a b;have:a=((1,0,.empty),(none,0,0)):=by simpa [aC,bT]using b
  subst this;simp[cJ,qP]
 exact⟨bG.2 ⟨c,by simp[fI,bT],by simp[sz,bT]⟩,by simp[aS,bT],by simp[sz,bT]⟩
theorem BH:dN ws nm (N+1) (bT 1 0 N) (1,0):=⟨λa=>by simp[bT]at a,λa=>by simp[bT]at a,λ_ _=>rfl⟩
theorem j9.numb{i:List Wd}{s:Tm (N+1)}{h:List (Tm (N+1))}(j:j9 (N+1) ws nm room (a::i) (s::h)):j9 (N+1) ws nm room ((1,0)::i) (bT 1 0 N::h):=by
 obtain⟨f,g,k,l,m,n,o,p⟩:=j;obtain⟨q,r,u⟩:=Ft N;refine⟨⟨by simpa using f.1,λd t e c b=>?_⟩,?_,λe b=>?_,?_,m,n,o,p⟩
 ·cases d with
  | zero=>
   simp only[cW,jr]at c b;subst c b;exact BH
  | succ d=>exact f.2 (d+1) t e (by simpa using c) (by simpa using b)
 ·simp only[bK]at g ⊢;rw[mJ (by decide),jO];exact(fz.1 g).2.1
 ·rcases cv.1 b with rfl|b
  ·exact⟨q,r⟩
  ·exact k e (bR _ b)
 ·simp only[aU,bN]at l ⊢;have:=(fh (N+1) s).1;omega
theorem j9.turned{v:Wd}{vs:List Wd}{s x:Tm (N+1)}{ms:List (Tm (N+1))}(o:j9 (N+1) ws nm room (a::vs++ [v]) (s::ms++ [x]))(g:vs.length=ms.length):j9 (N+1) ws nm room (v::vs) (x::ms):=by
 obtain⟨h,i,w,y,z,A,B,C⟩:=o;refine⟨⟨by simp[g],λe D f d c=>?_⟩,?_,λf c=>w f ?_,?_,z,A,B,C⟩
 ·cases e with
  | zero=>
   simp only[cW,jr]at d c;subst d c;exact h.2 (vs.length+1) v x (by simp) (by simp[g])
  | succ e=>
   simp only[dm]at d c;have p:=(aX.1 d).1;have q:=(aX.1 c).1;exact h.2 (e+1) D f (by rw[eL,dm,dx p];exact d) (by rw[eL,dm,dx q];exact c)
 ·simp only[eL,bK,kO,List.flatMap_nil,eK]at i ⊢;obtain⟨_,u,_⟩:=fz.1 i;obtain⟨k,l,m⟩:=fz.1 u;exact fz.2 ⟨l,k,λj r b t n=>m b t j r n.symm⟩
 ·rcases cv.1 c with rfl|c
  ·simp
  ·simp[c]
 ·simp only[eL,aU,iD,bN,List.sum_append,ci,gY]at y ⊢;have:=(fh (N+1) s).1;omega
theorem rU(w:ag)(c:Nat)(a b:Int):bZ (λq=>q=c) w (ul w c a b):=(bz w c 5 (ab a)).trans (bz _ c 6 (ab b)) λ_ _ e=>e
theorem KS(w:ag)(c:Nat)(a b:Int):(ul w c a b).heap.size=w.heap.size:=by simp[ul,World.setCell]
theorem iq(a:bZ S w w'):bB S w w':=⟨a.os,a.tape,a.output,a.size,a.block⟩
theorem jB(a:bB S w w'):bZ S w w':=⟨a.os,a.tape,a.output,a.size,a.block⟩
section
variable {base pb:Nat} {name:ap} {room:Int} {N:Nat} {s:Tm (N+1)} {ms:List (Tm (N+1))} {xs:List (Wd×Tm (N+1))} {nk:Nat} {M:aR} {w:ag} {ws:List Wd} {nm:List ap} {sv:Wd} {vs:List Wd} {ma:aw} {mc:Nat} {Mh:aR}
theorem jP.keptBox{v:Wd}(h:jP Mh ma vs mc w)(i:Mh pb):jP Mh ma vs mc (ul w pb v.1 v.2):=by
 rcases h with a|⟨d,j,e,f,b,c,g⟩
 ·exact ai a
 ·exact aj ⟨d,j,e,f,b,((rU w pb v.1 v.2).block d (aJ.1 c).1 λa=>b (by rw[a];exact i)).trans c,g⟩
theorem dM.word{mv:av}{v:Wd}(a:dM base (PL pb name sv mv) room ws nm M w):dM base (PL pb name v mv) room ws nm M (ul w pb v.1 v.2):=a.turn (rU w pb v.1 v.2) λtv lv mp b=>by
 unfold ul World.setCell;simp[bO,b]
theorem cO.numb(a:cO base pb name room (N+1) s ms [] nk M w ws nm sv vs ma mc Mh):cO base pb name room (N+1) (bT 1 0 N) ms [] nk M (ul w pb 1 0) ws nm (1,0) vs ma mc Mh/\bZ M w (ul w pb 1 0):=by
 obtain⟨d,f⟩:=a.box0;have c:=a.has;simp only[ci,eK]at c;refine⟨⟨a.heap.word (v:=(1,0)),a.mail.keptBox (v:=(1,0)) d,?_,a.len,a.names,a.inM,a.mailM⟩,(rU w pb 1 0).mono λb e=>?_⟩
 ·simp only[ci,eK];exact c.numb
 ·rw[e];exact a.inM pb d
theorem cO.turned{v:Wd}{x:Tm (N+1)}(a:cO base pb name room (N+1) s ms [(v,x)] nk M w ws nm sv vs ma mc Mh):cO base pb name room (N+1) x ms [] nk M (ul w pb v.1 v.2) ws nm v vs ma mc Mh/\bZ M w (ul w pb v.1 v.2):=by
 obtain⟨d,f⟩:=a.box0;have c:=a.has;simp only[aU,ci]at c;refine⟨⟨a.heap.word,a.mail.keptBox d,?_,a.len,a.names,a.inM,a.mailM⟩,(rU w pb v.1 v.2).mono λb e=>?_⟩
 ·simp only[ci,eK];exact c.turned a.len
 ·rw[e];exact a.inM pb d
theorem cO.cells56(e:cO base pb name room (N+1) s ms xs nk M w ws nm sv vs ma mc Mh):(∃a,w.cell? ⟨pb,5,none⟩=some (ab a))/\(∃a,w.cell? ⟨pb,6,none⟩=some (ab a))/\∀j,w.frozen? ⟨pb,j,none⟩=false:=by
 obtain⟨i,g,h,f,_⟩:=e.heap.box;obtain⟨_,b,c,_,d,_⟩:=PL.cells f;exact⟨⟨_,b⟩,⟨_,c⟩,d⟩
def OV(base pb:Nat)(name:ap)(room:Int)(N:Nat)(s:Tm (N+1))(ms:List (Tm (N+1)))(x:Tm (N+1))(nk:Nat)(M:aR)(w:ag)(t:Bool)(w':ag):Prop:=
 t=decide ((ms.map (sz (N+1))).sum+sz (N+1) x<=room)/\bZ M w w'/\∃a i f g h d e c,cO base pb name room (N+1) a ms [] (nk+402) (λb=>M b\/w.heap.size<=b) w' i f g h d e c/\(t=true->a=x)/\(t=false->aB (N+1) a (N+1) s=true)
theorem xT{x:Tm (N+1)}{ms:List (Tm (N+1))}(a:bE (N+1) x=0)(b:aS (N+1) x=true):sJ (N+1) x room (bT 1 0 N::ms)=if (ms.map (sz (N+1))).sum+sz (N+1) x<=room then 0 else 6:=by
 unfold sJ;rw[if_neg (by simp[a]),if_neg (by simp[b])];simp only[aU,bN,(Ft N).2.2,Int.zero_add]
theorem cO.become(k:cO base pb name room (N+1) s ms [] nk M w ws nm sv vs ma mc Mh)(x:Tm (N+1))(aD:In w.heap.size w (N+1) x)(L:cr (λb=>¬M b) (N+1) x)(E:bE (N+1) x=0)(ak:aS (N+1) x=true)(m:∀b,M b->b<w.heap.size)(a6:nk<=48000)(B:ms.length<=999)(a5:base<=w.heap.size):am 118 #[aH pb,.agg #[ab x.1.1,ab x.1.2.1,af x.1.2.2,ae x.2.1.1 x.2.2.length x.2.1.2]] w λe w'=>∃t,e=.returned (.bool t)/\Hid (OV base pb name room N s ms x nk M w t w'):=by
 obtain⟨ar,au⟩:=k.box0;have a4:M pb:=k.inM pb ar;have u:=k.front;have P:=u.2.2.1 s (by simp);have aA:(ms.map (sz (N+1))).sum+sz (N+1) s<=room:=by
  have ah:=u.2.2.2.1;have a3:=u.2.2.2.2.1;simp only[aU,bN]at ah;omega
 refine AG x.1.1 x.1.2.1 x.1.2.2 x.2.1.1 x.2.2.length x.2.1.2 pb w (λT U V sa sl sc f=>∃y0:Tm (N+1),(T=y0.1.1/\U=y0.1.2.1/\V=y0.1.2.2/\sa=y0.2.1.1/\sl=y0.2.2.length/\sc=y0.2.1.2)/\In f.heap.size f (N+1) y0/\cr (λa=>w.heap.size<=a) (N+1) y0/\aB (N+1) y0 (N+1) s=true) (λ_ _ _ _=>True) (OV base pb name room N s ms x nk M w) ?_ ?_ ?_
 ·intro f d;refine((k.later d).state (by omega)).mono ?_;rintro e w' ⟨a0,rfl,o⟩;exact⟨_,_,_,_,_,_,rfl,o.1,a0,⟨rfl,rfl,rfl,rfl,rfl,rfl⟩,o.2.1,o.2.2.1.mono λa O=>by have:=d.size;omega,o.2.2.2⟩
 ·intro f d;obtain⟨ag,b,c⟩:=(k.later d).cells56;exact⟨ag,b,c,au⟩
 ·rintro T U V sa sl sc a2 j aR aT ⟨y0,⟨rfl,rfl,rfl,rfl,rfl,rfl⟩,Q,R,q⟩ D r a7 a8 p;have ba:=r.size;obtain⟨ao,I⟩:=(k.later r).numb;have bc:=KS j pb 1 0;have H:bZ M w (ul j pb 1 0):=(bm r M).trans I λ_ _ e=>e;have aE:In (ul j pb 1 0).heap.size (ul j pb 1 0) (N+1) x:=aD.kee (iq H) L;have av:=ao.put x aE L (fo E) (λb h=>by have:=m b h;omega) (by omega) B (by omega);refine av.mono ?_;rintro e w' ⟨W,rfl,Y⟩;obtain⟨aY,aP,be,aW,aL,aN,aa,i,n⟩:=Y;have F:=xT (room:=room) (ms:=ms) E ak;have K:bZ M w w':=H.trans n λ_ _ e=>e;have bb:=n.size;refine⟨W,_,rfl,⟨?_,?_,i.cells56.1,i.cells56.2.1,i.cells56.2.2⟩,trivial,?_,?_⟩
  ·exact(n.block aR (aJ.1 p.1).1 λa=>by have:=m _ a;omega).trans p.1
  ·exact(n.block aT (aJ.1 p.2.1).1 λa=>by have:=m _ a;omega).trans p.2.1
  ·intro g f d;rw[if_pos g]at i;obtain⟨z,v⟩:=(i.later d).turned;rw[F]at g;have al:(ms.map (sz (N+1))).sum+sz (N+1) x<=room:=by
    by_cases a:(ms.map (sz (N+1))).sum+sz (N+1) x<=room
    ·exact a
    ·rw[if_neg a]at g;cases g
   refine⟨by simp[al],(K.trans (bm d M) λ_ _ e=>e).trans v λb h a=>?_,x,aY,aP,W,aW,aL,aN,aa,z.mono (λb a=>?_) (by omega),λ_=>rfl,λa=>by cases a⟩
   ·rcases a with a|a
    ·exact a
    ·omega
   ·rcases a with a|a
    ·exact ai a
    ·exact aj (by omega)
  ·intro g f aV d a9 aw;rw[if_neg g]at i;have an:¬(ms.map (sz (N+1))).sum+sz (N+1) x<=room:=λa=>g (by rw[F,if_pos a]);have aq:=(i.inside.later d);have az:=d.size;have aK:=In.offB R Q;have ay:=D.size;have A:bE (N+1) y0=0/\aS (N+1) y0=true:=⟨(bV q).trans P.1,(cM _ _ _ _ q).trans P.2⟩;have aF:In j.heap.size j (N+1) y0:=(Q.below D).mono ay;have S:cr (λb=>¬M b) (N+1) y0:=R.mono λa O l=>by have:=m a l;omega
   have aG:In w'.heap.size w' (N+1) y0:=(aF.kee (iq I) S).kee (iq n) S;have aI:In f.heap.size f (N+1) y0:=(aG.below d).mono az;have G:=xT (room:=room) (ms:=ms) A.1 A.2;have aC:=lT _ _ _ _ q;rw[if_pos (by rw[aC];exact aA)]at G;refine(aq.put y0 aI (aK.mono λa O l=>?_) (fo A.1) (λb h=>by have:=h.2;omega) (by omega) B (by omega)).mono ?_
   ·rcases l.1 with l|l
    ·have:=m a l;omega
    ·omega
   ·rintro e bg ⟨X,rfl,Z⟩;obtain⟨aZ,aQ,bf,aX,aM,aO,ad,y,J⟩:=Z;rw[if_pos G]at y;refine⟨X,_,rfl,λbd ap=>(J.block aV aw λa=>by have:=a.2;omega).trans ap,y.cells56,λa1 C=>?_⟩;have ax:=y.kept (jB C) λb a _ e=>by
     rcases a with a|a
     ·have:=a.2;omega
     ·omega
    obtain⟨z,v⟩:=ax.turned;refine⟨by simp[an],?_,y0,aZ,aQ,X,aX,aM,aO,ad,z.mono (λb a=>?_) (by omega),λa=>(by cases a),λ_=>q⟩
    ·refine((((K.trans (bm d M) λ_ _ e=>e).trans J λb h a=>?_).trans (jB C) λb h a=>?_)).trans v λb h a=>?_
     ·rcases a.1 with a|a
      ·exact a
      ·omega
     ·omega
     ·rcases a with a|a
      ·rcases a.1 with a|a
       ·exact a
       ·omega
      ·omega
    ·rcases a with a|a
     ·rcases a.1 with a|a
      ·exact ai a
      ·exact aj (by omega)
     ·exact aj (by omega)
end
theorem fQ{x:Tm (n+1)}(g:bE (n+1) x=0){y:Tm n}(a:y∈x.2.2):bE n y=0:=by
 obtain⟨d,i,e⟩:=bG.1 g;have c:aI ⟨n+1,x⟩:=aT.2 d;have j:=oh c a;have f:=eR (bI n x) (c (bI n x) (by simp[aC,bI]));have b:x.1.1=4:=by
  by_cases b:x.1.1=4
  ·exact b
  ·have:x.2.2=[]:=bJ (f.2.2.2.2 b);rw[this]at a;cases a
 have h:=uh (λy=>1+sz n y) (λy=>by have:=(fh n y).1;omega) x.2.2 y a;simp only[sz,if_pos b]at e
 exact bG.2 ⟨aT.1 (bf n x y c a),by omega,by
  have k:1+sz n y<=(x.2.2.map λy=>1+sz n y).sum:=h.1
  omega⟩
theorem uG{x:Tm (n+1)}(a:bE (n+1) x=0)(i:Nat){y:Tm n}(b:x.2.2[i]?=some y):bE n y=0:=fQ a (aN b)
theorem qL(c:n<=N)(x:Tm (n+1))(a:bE (N+1) (aY (N+1) (n+1) x)=0):bE (n+1) x=0:=by
 have e:aI ⟨n+1,x⟩:=λb d=>(aT.2 (bG.1 a).1) b (by rw[nE N n c x];exact d);rw[<-bV (fG (N+1) (n+1) (by omega) x e)];exact a
def qe{n:Nat}(c:Cl (n+1)):Prop:=bE (n+1) c.1.1=0/\bE (n+1) c.1.2.1=0/\bE (n+1) c.1.2.2=0/\c.2.2.length<=8/\∀a∈c.2.2,NI a
theorem Fx{p:List (Bh (n+1))}(d:lU n p=0):kF (n+1) p=true/\∀b∈p,b.2.2.length<=6/\∀c∈b.2.2,qe c:=by
 unfold lU at d;cases e:kF (n+1) p with
 | false=>rw[e]at d;cases d
 | true=>
  rw[e,if_pos rfl]at d;refine⟨rfl,λb l=>?_⟩;unfold kF at e;simp only[aK,cu]at e;have h:=e.2 b l;unfold wI at h;simp only[aK,cu,co]at h;refine⟨by omega,λc m=>?_⟩;have i:=h.2 c m;unfold tJ at i;simp only[aK,cu,co]at i;have o:bE (n+5) (dR n b)=0:=fQ d (by simp only[cd,dl];exact bR _ (kQ l));have f:bE (n+4) (dJ n c)=0:=fQ o (by simp only[dR,dl];exact bR _ (bR _ (kQ m)));have s:bE (n+3) (dl (n+2) (c.2.2.map (cq n)))=0:=uG f 3 rfl;refine⟨qL (N:=n+2) (by omega) _ (uG f 1 rfl),qL (N:=n+2) (by omega) _ (uG f 2 rfl),qL (N:=n+2) (by omega) _ (uG f 4 rfl),by omega,λj k=>?_⟩;have g:bE (n+2) (cq n j)=0:=fQ s (by simp only[dl];exact kQ k);refine⟨i.2 j k,λr=>?_,λq=>?_⟩
  ·rcases r with a|a
   ·exact fQ g (by simp[cq,a,dl])
   ·exact fQ g (by simp[cq,a,dl])
  ·rcases q with a|a
   ·exact fQ g (by simp[cq,a,dl])
   ·exact fQ g (by simp[cq,a,dl])
section
variable {base db:Nat} {self:Int} {n D k:Nat} {nx:Int} {d:Dg} {w:ag} {l:List (Tm (D+1))} {bg bc:Nat} {sd:List (Int×Tm (D+1+n+1))} {sp:List (Int×ap×Tm (D+1+n+1))} {sv pv lv:av}
theorem eD.kept(a:eD base db self n D k nx d w l bg bc sd sp sv pv lv){S:aR}{w':ag}(i:bB S w w')(m:∀b,base<=b->b<w.heap.size->¬S b):eD base db self n D k nx d w' l bg bc sd sp sv pv lv:=by
 have Q:=i.size;obtain⟨L,B,v,p,R⟩:=a.own;have s:∀{g:Nat}{y:Tm g},In w.heap.size w g y->cr (Ly base db bg sv pv lv) g y->In w'.heap.size w' g y:=λG H=>G.kee (i.mono (T:=λb=>S b/\b<w.heap.size) λb E f=>⟨f,E⟩) (H.mono λf h (e:S f/\f<w.heap.size)=>m f h.1 e.2 e.1);have u:∀{q:TypeId}{e g:Nat}{x:av}{z:List av},w.ownsRow base q e x g z->w'.ownsRow base q e x g z:=λ{q e g x z} t=>bu t i λf h o=>by
  obtain⟨N,F⟩:=eC t f h;refine m f ?_ (aJ.1 F).1 o;rcases t.2 with⟨r,_⟩|⟨C,cap,O,r,P,_⟩
  ·rw[r]at h;cases h
  ·rw[r]at h;have:C=f:=aA h;omega
 refine⟨(i.block db a.lt (m db B a.lt)).trans a.box,⟨L,B,v,by omega,by omega⟩,a.bnd,a.tells,λJ M I=>?_,λK=>?_,u a.sRow,u a.pRow,u a.lRow,a.sIs,a.pIs,λe o=>?_,λe o=>?_,a.apart,a.few⟩
 ·obtain⟨j,b,c⟩:=a.row J M I;exact⟨j.kee i p (m bg v p),s b c,c⟩
 ·have A:=a.free K;unfold World.frozen? at A ⊢;rw[i.block bg p (m bg v p)];exact A
 ·obtain⟨j,b,c⟩:=a.sIn e o;exact⟨j,s b c,c⟩
 ·obtain⟨j,b,c⟩:=a.pIn e o;exact⟨j,s b c,c⟩
theorem eD.low(b:eD base db self n D k nx d w l bg bc sd sp sv pv lv):∀q,lJ db bg sv pv lv q->q<w.heap.size:=by
 have c:∀{f:TypeId}{i g q:Nat}{e:av}{h:List av},w.ownsRow base f i e g h->e.ownBlock=some q->q<w.heap.size:=λ{f i g q e h} m a=>by
  obtain⟨o,j⟩:=eC m q a;exact(aJ.1 j).1
 intro q a;rcases a with rfl|rfl|a|a|a
 ·exact b.lt
 ·exact b.own.2.2.2.1
 ·exact c b.sRow a
 ·exact c b.pRow a
 ·exact c b.lRow a
def O0(u t:Nat)(name:ap)(room:Int)(s:Tc)(ms:List Tc)(q:Nat)(M:aR)(base db:Nat)(self:Int)(n D:Nat)(nx:Int)(c:Cl (n+1))(b:List Tc)(S:aR)(w:ag)(f:Int)(w':ag):Prop:=
 f=(fx room self nx (cn 13 s) (cn 13 s) (ms.map (cn 13)) c b).fate/\bB (λa=>M a\/S a) w w'/\(∃j z r e y o p k,cO u t name room 13 j ms [] (q+402) (λa=>M a\/w.heap.size<=a) w' z r e y o p k/\cn 13 j=(fx room self nx (cn 13 s) (cn 13 s) (ms.map (cn 13)) c b).state)/\
  ((f=0\/f=1)->∃d m g l v x e i h,eD base db self n D 8 nx d w' m g l v x e i h/\d.sends=(fx room self nx (cn 13 s) (cn 13 s) (ms.map (cn 13)) c b).sends/\d.spawns=(fx room self nx (cn 13 s) (cn 13 s) (ms.map (cn 13)) c b).spawns/\d.links=(fx room self nx (cn 13 s) (cn 13 s) (ms.map (cn 13)) c b).links/\∀a,lJ db g e i h a->¬(M a\/w'.heap.size<=a))
theorem OE{ms:List Tc}(a:∀y∈ms,bE 13 y=0):((ms.map (cn 13)).map (sz 13)).sum=(ms.map (sz 13)).sum:=by
 rw[gE];congr 1;exact jq λy b=>EX (a y b)
theorem Dk{Q I:Nat}{name:ap}{room:Int}{s:Tc}{ms:List Tc}{P:Nat}{M:aR}{ws:List Wd}{nm:List ap}{au:Wd}{vs:List Wd}{ma:aw}{al:Nat}{Mh:aR}{b:List Tc}(a7:cO Q I name room 13 s ms [] P M w ws nm au vs ma al Mh)(T:eD base db self n D 0 nx d w l bg bc sd sp sv pv lv)(aE:d=⟨b,nx,[],[],[],false⟩)(c:Cl (n+1))(a2:ig (n+1) base w c)(br:qe c)(a8:1<=self/\self<=99)(L:∀q,M q->q<base)(bQ:Q<=base)(bq:P<=48000)(bm:ms.length<=999):am 79 #[aH I,.agg (fk (n+1) c).toArray,aH db] w λe w'=>∃f,e=.returned (ab f)/\O0 Q I name room s ms P M base db self n D nx c b (lJ db bg sv pv lv) w f w':=by
 obtain⟨bO,bP,aZ,bi,bj⟩:=br;have aK:=T.own.2.2.2.2;have bo:∀{h:ag},bB (lJ db bg sv pv lv) w h->Below base w h:=λm=>m.below aK λb E q=>by
  have:=T.high b q;omega
 have aL:∀{h:ag},bB (lJ db bg sv pv lv) w h->cO Q I name room 13 s ms [] P M h ws nm au vs ma al Mh:=λm=>a7.kept (N:=12) (jB m) λb E _ q=>by
  have:=L b E;have:=T.high b q;omega
 have aF:∀{h:ag},bB (lJ db bg sv pv lv) w h->bB (λq=>M q\/lJ db bg sv pv lv q) w h:=λm=>m.mono λq _ a=>aj a;have bp:∀g∈ms,bE 13 g=0:=λg bx=>(a7.front.2.2.1 g (bR _ bx)).1
 refine A8 (D+1+n) c.1.1.1.1 c.1.1.1.2.1 c.1.1.1.2.2 c.1.1.2.1.1 c.1.1.2.2.length c.1.1.2.1.2 c.1.2.1.1.1 c.1.2.1.1.2.1 c.1.2.1.1.2.2 c.1.2.1.2.1.1 c.1.2.1.2.2.length c.1.2.1.2.1.2 c.2.1.1 c.2.2.length c.2.1.2 c.1.2.2.1.1 c.1.2.2.1.2.1 c.1.2.2.1.2.2 c.1.2.2.2.1.1 c.1.2.2.2.2.length c.1.2.2.2.1.2 I db w
  (λh=>bB (lJ db bg sv pv lv) w h/\∃i x v u A B C z y,qq self c.2.2 d=some i/\eD base db self n D 8 nx i h x v u A B C z y)
  (λt g S=>∃h i x v u A B C z y,bB (lJ db bg sv pv lv) w h/\qq self c.2.2 d=some i/\eD base db self n D 8 nx i h x v u A B C z y/\ak h S/\In S.heap.size S (D+1+n+1) g/\cr (λq=>h.heap.size<=q) (D+1+n+1) g/\t=(sT i.b self (n+1) c.1.2.2).isSome/\∀r,sT i.b self (n+1) c.1.2.2=some r->bE _ g=0/\aS _ g=true/\cn _ g=r)
  (O0 Q I name room s ms P M base db self n D nx c b (lJ db bg sv pv lv) w) ?_ ?_ ?_ ?_
 ·intro h Y;refine((T.later Y).all c.2.2 c.2.1.1 c.2.1.2 ?_ bj bi a8).mono ?_
  ·rcases a2.2.2 with e|⟨q,o,e,a,a3⟩
   ·exact ai e
   ·exact aj ⟨q,o,e,a,λaQ aX a5=>⟨λba bL bn=>(Y.cell (p:=⟨q,o+aQ*11+ba,none⟩) (aW a aK)).trans ((a3 aQ aX a5).1 ba bL bn),((a3 aQ aX a5).2).later (Y.mono aK)⟩⟩
  ·rintro e w' ⟨t,rfl,aB⟩;obtain⟨av,J,aU⟩:=aB.out;have m:bB (lJ db bg sv pv lv) w w':=(aO Y _).trans av λ_ _ e=>e;refine⟨t,rfl,λq bU a a6=>(av.block q (aJ.1 a6).1 λk=>by have:=T.low q k;omega).trans a6,λG=>⟨m,?_⟩,λaa=>?_⟩
   ·rw[G]at J;obtain⟨a0,a4⟩:=fA.1 J.symm;obtain⟨bA,bh,bf,bH,bI,R,bD,bC,bz,_⟩:=aU a0 a4;exact⟨a0,bA,bh,bf,bH,bI,R,bD,bC,a4,bz⟩
   ·rw[aa]at J;have Z:qq self c.2.2 d=none:=kS.1 (by rw[<-kT,<-J];rfl);rw[aE]at Z;have j:fx room self nx (cn 13 s) (cn 13 s) (ms.map (cn 13)) c b=⟨cn 13 s,2,[],[],[],cn 13 s,ms.map (cn 13)⟩:=by simp[fx,Z]
    refine⟨by rw[j],aF m,⟨s,ws,nm,au,vs,ma,al,Mh,(aL m).mono (N:=12) (λq a=>ai a) (by omega),by rw[j]⟩,λk=>?_⟩;omega
 ·rintro h ⟨m,i,x,v,u,A,B,C,z,y,F,K⟩;obtain⟨bJ,bK⟩:=K.told (self:=self) c.1.2.2 aZ;refine(K.value c.1.2.2 (a2.1.2.2.below (bo m)) aZ a8 h (aq _ _)).mono ?_;rintro e w' ⟨g,rfl,be⟩;obtain⟨y1,y2,aV,W⟩:=be;exact⟨g,_,rfl,h,i,x,v,u,A,B,C,z,y,m,F,K,y1,y2,aV,bJ,λr G=>bK g r G W⟩
 ·rintro g S aC ⟨h,i,x,v,u,A,B,C,z,y,m,F,K,y1,_,_,W,_⟩ E;have Z:sT i.b self (n+1) c.1.2.2=none:=kS.1 (by rw[<-kT,<-W];rfl);rw[aE]at F;have j:fx room self nx (cn 13 s) (cn 13 s) (ms.map (cn 13)) c b=⟨cn 13 s,2,[],[],[],cn 13 s,ms.map (cn 13)⟩:=by simp[fx,F,Z]
  have U:bB (lJ db bg sv pv lv) w aC:=(m.trans (aO y1 (λ_=>False)) λ_ _ e=>e.elim).trans (aO E (λ_=>False)) λ_ _ e=>e.elim;refine⟨by rw[j],aF U,⟨s,ws,nm,au,vs,ma,al,Mh,(aL U).mono (N:=12) (λq a=>ai a) (by omega),by rw[j]⟩,λk=>?_⟩;omega
 ·rintro g S aC ⟨h,i,x,v,u,A,B,C,z,y,m,F,K,y1,y2,aV,W,bM⟩ E;obtain⟨r,G⟩:=fA.1 W.symm;obtain⟨aA,bN,bd⟩:=bM r G;rw[aE]at F;have bT:=m.size;have bS:=y1.size;have bs:=E.size;have U:bB (lJ db bg sv pv lv) w aC:=(m.trans (aO y1 (λ_=>False)) λ_ _ e=>e.elim).trans (aO E (λ_=>False)) λ_ _ e=>e.elim;have aP:aI ⟨D+1+n+1,g⟩:=aT.2 (bG.1 aA).1;have aN:fI (D+1+n+1) g<13:=by have:=(bG.1 aA).2.1;omega
  have ae:=jC 13 (D+1+n+1) g aP aN;have bt:=sH 13 (D+1+n+1) g _ _ aP aN ((y2.below E).mono bs);have bv:=ue 13 (D+1+n+1) g _ aP aN aV;have bu:(aY 13 (D+1+n+1) g).2.2.length=g.2.2.length:=by simp[aY]
  have a9:cn 13 (aY 13 (D+1+n+1) g)=r:=(io ae).trans bd;have bw:sz 13 (aY 13 (D+1+n+1) g)=sz 13 r:=by
   rw[lT _ _ _ _ ae,<-bd,EX aA]
  have a1:=(aL U).become (N:=12) (aY 13 (D+1+n+1) g) bt (bv.mono λq a k=>by have:=L q k;omega) ((bV ae).trans aA) ((cM _ _ _ _ ae).trans bN) (λq k=>by have:=L q k;omega) bq bm (by omega);rw[bu]at a1;refine a1.mono ?_;rintro e w' ⟨t,rfl,aB⟩;obtain⟨av,J,ax,az,ar,R,ay,af,an,X,aU,bb,bF⟩:=aB;have O:t=decide (((ms.map (cn 13)).map (sz 13)).sum+sz 13 r<=room):=by
   rw[OE bp,<-bw];exact av
  have aG:bB (λq=>M q\/lJ db bg sv pv lv q) w w':=(aF U).trans (iq J) λq _ a=>ai a
  have aD:cO Q I name room 13 ax ms [] (P+402) (λq=>M q\/w.heap.size<=q) w' az ar R ay af an X:=aU.mono (N:=12) (λq a=>by
   rcases a with a|a
   ·exact ai a
   ·exact aj (by omega)) (ao _)
  have H:eD base db self n D 8 nx i w' x v u A B C z y:=((K.later y1).later E).kept (iq J) λq a _ k=>by
   have:=L q k;omega
  refine⟨t,rfl,λaa=>?_,λad=>⟨i.stops,ah H.box 6,λaM=>?_,λaM=>?_⟩⟩
  ·rw[aa]at O;have V:¬((ms.map (cn 13)).map (sz 13)).sum+sz 13 r<=room:=of_decide_eq_false O.symm;have j:fx room self nx (cn 13 s) (cn 13 s) (ms.map (cn 13)) c b=⟨cn 13 s,3,[],[],[],cn 13 s,ms.map (cn 13)⟩:=by
    unfold fx;simp only[F,G];rw[if_neg V]
   refine⟨by rw[j],aG,⟨ax,az,ar,R,ay,af,an,X,aD,by rw[j];exact io (bF aa)⟩,λk=>?_⟩;omega
  ·rw[ad]at O;have V:((ms.map (cn 13)).map (sz 13)).sum+sz 13 r<=room:=eQ O.symm;have j:fx room self nx (cn 13 s) (cn 13 s) (ms.map (cn 13)) c b=⟨cn 13 s,1,i.sends,i.spawns,i.links,r,ms.map (cn 13)⟩:=by
    unfold fx;simp only[F,G];rw[if_pos V,aM];rfl
   refine⟨by rw[j],aG,⟨ax,az,ar,R,ay,af,an,X,aD,by rw[j,bb ad];exact a9⟩,λ_=>⟨i,x,v,u,A,B,C,z,y,H,by rw[j],by rw[j],by rw[j],λq a k=>?_⟩⟩;have bk:=H.high q a;have bl:=H.low q a;rcases k with k|k
   ·have:=L q k;omega
   ·omega
  ·rw[ad]at O;have V:((ms.map (cn 13)).map (sz 13)).sum+sz 13 r<=room:=eQ O.symm;have j:fx room self nx (cn 13 s) (cn 13 s) (ms.map (cn 13)) c b=⟨cn 13 s,0,i.sends,i.spawns,i.links,r,ms.map (cn 13)⟩:=by
    unfold fx;simp only[F,G];rw[if_pos V,aM];rfl
   refine⟨by rw[j],aG,⟨ax,az,ar,R,ay,af,an,X,aD,by rw[j,bb ad];exact a9⟩,λ_=>⟨i,x,v,u,A,B,C,z,y,H,by rw[j],by rw[j],by rw[j],λq a k=>?_⟩⟩;have bk:=H.high q a;have bl:=H.low q a;rcases k with k|k
   ·have:=L q k;omega
   ·omega
end
end Go.Proofs.YtmmahddlcldmiaaGreat
