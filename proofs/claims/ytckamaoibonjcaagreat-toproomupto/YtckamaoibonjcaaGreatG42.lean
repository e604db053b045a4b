/- What is proved here: plain facts and contracts that the claimed theorem stands on. No condition but those that each names. -/
import Derived.Test.YtckamaoibonjcaaGreatG41
import Derived.BigRegion
import Derived.Test.YtckamaoibonjcaaGreatG40
import Derived.ProofKit
import Derived.OpenShut
import Derived.JoinedCond
namespace Go.Proofs.YtckamaoibonjcaaGreat
open Go.RowKit
open Go.ChangeShapes Go.WideShapes Go.ChangeAt Go.RowKit
set_option maxHeartbeats 2000000
set_option maxRecDepth 100000
theorem At.no{s:ByteArray}{b e:Nat}{a:List fo}(d:At s b e a)(f:ye (s.extract b e)=false):∀t c,a=t::c->ye t.2=false:=by
 intro t c e;subst e;rw[d.cons.1];exact f
theorem xk{n r:Nat}{s:ByteArray}{h f:List fo}{w wr w1:World}{b e m:Nat}{v:Value}{l:List (Tm (n+1))}(u:r<w.heap.size)(a:Hb n r s h w b e v wr l f)(g:(wr.drewN m).grownBy w1 (some r)):Bx w.heap.size (ab 0) (ab 0) (af ⟨#[]⟩) (ae none 0 0) w1/\Bx (w.heap.size+1) (ab 4) (ab 0) (af ⟨#[]⟩) v w1/\w.heap.size+1<w1.heap.size:=by
 obtain⟨i,j,k,o,c,d,p,q,t⟩:=a;have a:=d.block (g.block _ d.lt (by simp;omega));exact⟨c.block (g.block _ c.lt (by simp;omega)),a,a.lt⟩
theorem GN{n r:Nat}{s:ByteArray}{c:fo}{f d:List fo}{w wr w1:World}{b e m:Nat}{v B:Value}{l:List (Tm (n+1))}(t:BW c.2=true)(j:Hb n r s f w b e v wr l d)(q:ye (s.extract b e)=false)(R:lp (n+1) s r d (wr.drewN m) w1 B false)(A:Value):lp (n+2) s r (c::f) (w.alloc (.cells #[ab 0,ab 0,af ⟨#[]⟩,ae none 0 0] 30)) w1 A false:=by
 obtain⟨C,k,o,D,E,F,G,H,p⟩:=j;obtain⟨i,g,h,z,u,x,_,y⟩:=R;refine⟨bR o (bR (eu wr m _) i),g,h,z,u,x,by simp,λ_ a=>?_⟩;simp only[BV,t,cI];rw[p a,Bi _ _ _ (k.no q)];exact y rfl (a+1)
theorem El{n:Nat}:(l:List (Tm n))->(a r:List fo)->DK (Is n) l a r->l.length+r.length<=a.length
 | [],a,r,h=>by have e:a=r:=h;subst e;simp
 | x::l,a,r,h=>by
  obtain⟨m,b,c⟩:=h;have d:=El l m r c;have f:=Is.nodes n x a m b;have g:0<(aw n x).length:=by
   cases n with
   | zero=>exact b.elim
   | succ n=>simp[aw]
  simp only[aZ];omega
theorem LG{n r:Nat}{s:ByteArray}{h o:List fo}{w wr w1:World}{b e m:Nat}{a:Option Addr}{L c:Nat}{l:List (Tm (n+1))}(F:r<w.heap.size)(q:Hb n r s h w b e (ae a L c) wr l o)(g:(wr.drewN m).grownBy w1 (some r))(E:h.length<=2048):l.length=L/\L<=2048/\∀d f,((w1.alloc d).alloc f).ownsRow (w.heap.size+2) 30 4 (ae a L c) L (cr (l.map (gd (n+1)))):=by
 obtain⟨x,y,z,k,A,B,t,C,D⟩:=q;have p:wr.grownBy w1 (some r):=bR (eu wr m _) g;obtain⟨u,v,ev,_⟩:=k.tup;injection ev with _ i _;have:=El l h o t;have j:=(k.kept p (by omega)).1;rw[<-i]at j;exact⟨i.symm,by omega,λd f=>(j.alloc d).alloc f⟩
theorem GO{n r:Nat}{s:ByteArray}{S y:List fo}{w wr w1 f:World}{b e m:Nat}{a:Option Addr}{L c:Nat}{l:List (Tm (n+1))}(al:r<w.heap.size)(D:Hb n r s S w b e (ae a L c) wr l y)(ah:ye (s.extract b e)=false){k z:Int}{t:ByteArray}{q:Option Addr}{x u:Nat}(R:lp (n+1) s r y (wr.drewN m) w1 (.agg #[ab k,ab z,af t,ae q x u]) true){O P:Obj}{g h:Nat}(ag:l.length=L)(I:f.ownsRow (w.heap.size+2) 30 4 (ae (some ⟨g,0,none⟩) (L+1) h) (L+1) (cr (l.map (gd (n+1)))++ [ab k,ab z,af t,ae q x u]))(v:((w1.alloc O).alloc P).grownBy f (Value.slice a L c).ownBlock)(ai:(Value.slice a L c).ownBlock=some g\/g=w1.heap.size+2):(Bx (w.heap.size+1) (ab 4) (ab 0) (af ⟨#[]⟩) (ae a L c) f/\ ∃j o,Ko n r s S w j o (ae (some ⟨g,0,none⟩) (L+1) h) (f.setCell ⟨w.heap.size+1,3,none⟩ (ae (some ⟨g,0,none⟩) (L+1) h))/\NO r s (f.setCell ⟨w.heap.size+1,3,none⟩ (ae (some ⟨g,0,none⟩) (L+1) h))<NO r s wr):=by
 subst ag;obtain⟨aq,ar,aE⟩:=xk al D R.1;obtain⟨X,E,Y,F,aA,Z,aa,aB,ad⟩:=D;obtain⟨W,j,o,T,an,M,ao,_⟩:=R;have C:wr.grownBy w1 (some r):=bR (eu wr m _) W;obtain⟨⟨i,p,U,au,av⟩,ax⟩:=ao rfl;have H:∀b,(Value.slice a l.length c).ownBlock=some b->w.heap.size+2<=b:=λb e=>(F.1.lt b e).1;have aj:uF (gd (n+1) i)=[ab k,ab z,af t,ae q x u]:=by
  have V:dj (n+1) i=.agg (uF (gd (n+1) i)).toArray:=rfl;rw[V]at p;injection p with p;exact mh.2 p
 rw[<-aj]at I;have K:=F.snoc C (by omega) au av (by have:=Z.lt;simp;omega) (w1:=(w1.alloc O).alloc P) (fy (fy (eu w1 0 _) _) _) I v (by simpa using ai);have ak:∀d,d<w.heap.size+2->some d≠(Value.slice a l.length c).ownBlock:=λd J e=>by have:=H d e.symm;omega
 have A:∀d,d<w.heap.size+2->f.heap[d]?=w1.heap[d]? :=λd J=>(v.block d (by simp;omega) (ak d J)).trans ((ft _ _ (by simp;omega)).trans (ft _ _ (by omega)));have Q:=ar.block (A (w.heap.size+1) (by omega));have ap:Rd r s j o f:=an.block (A r (by omega));have az:f.heap.size=(f.setCell ⟨w.heap.size+1,3,none⟩ (ae (some ⟨g,0,none⟩) (l.length+1) h)).heap.size:=by simp[World.setCell]
 have N:=ap.far (g:=w.heap.size+1) (by omega) 3 (ae (some ⟨g,0,none⟩) (l.length+1) h);have aC:=Is.nodes (n+1) i y T U;have aD:0<(aw (n+1) i).length:=by simp[aw]
 refine⟨Q,j,o,⟨l++ [i],T,N,M,?_,?_,?_,Q.set3 _,aa.snoc U,by omega,λB=>?_⟩,?_⟩
 ·refine lR (FN (fy (fy (bR Y C) _) _) v λb G=>?_) (by simp) _ _;have:=H b G;simp;omega
 ·refine⟨ownsRow_setCell_below (by simpa using K.1) (by simp) _,λay am=>?_⟩;obtain⟨y1,y2⟩:=K.2 ay am;refine⟨?_,y2⟩;rw[<-az];exact In.off (λb G=>eG _ _ _ _ (by simp;omega)) y2 y1
 ·exact(aq.block (A w.heap.size (by omega))).block (eG _ _ _ _ (by simp))
 ·rw[ad B,Bi _ _ _ (E.no ah)];exact ax (B+1)
 ·rw[IW N M,IW X E];omega
theorem Ft(w:World)(o:Obj)(v0 v1 v2 v3:Value)(e:TypeId):∀(j:Nat)(a:Value),[v0,v1,v2,v3][j]?=some a->((w.alloc o).alloc (.cells #[v0,v1,v2,v3] e)).cell? ((⟨w.heap.size+1,0,none⟩:Addr).add j)=some a:=by
 intro j a b;rw[eS];rw[World.cell?_alloc_at _ _ _ _ (by simp)];simpa using b
theorem Iw(k d:Int)(t:ByteArray)(a:Option Addr)(l c:Nat):∀v∈[Value.int .i64 k,ab d,af t,ae a l c],v.oneCell'=true:=by
 intro v b;simp at b;rcases b with rfl|rfl|rfl|rfl<;>rfl
theorem DC(n:Nat)(ih:LX n)(r:Nat)(s:ByteArray)(b e:Nat)(I:fo)(y:List fo)(w:World)(G:Rd r s b e w)(R:At s b e (I::y))(E:s.size<=2048)(V:y.length<=n)(W:BW I.2=true):am 94 #[aF r] w λg w'=>Km (n+2) s r (I::y) w w' g:=by
 have q:=G.lt;obtain⟨aC,U,Y,Z,aa⟩:=bS ge;have B:=ao (⟨U,Y,Z,aa⟩:_/\_/\_/\_);clear U Y Z aa;have d:=ao (⟨G,R,E,V,W⟩:_/\_/\_/\_/\_);have al:=ao ih;clear G R V W ih;go_enter Tryz.func94,Tryz.ntmps94;go_wp2_with (go_at_call 61;refine(qH r s b e _ ((d.out.1.alloc _).alloc _) d.out.2.1.2.1 E).mono ?_;rintro g ai ⟨rfl,m⟩);go_loopw [] (λwr=>∃(b e:Nat)(D:Option Addr)(u c:Nat),Hid (Ko n r s y w b e (ae D u c) wr)/\True) (λwr=>NO r s wr)
 case atStart=>exact⟨_,_,_,_,_,GP d.out.1 d.out.2.1 m.out.1 m.out.2,trivial⟩
 case round=>
  obtain⟨f,h,D,u,c,Q,_⟩:=hrel;clear m;obtain⟨l,J,i⟩:=Q.out;replace i:=ao i;obtain⟨j,ad⟩:∃j,s.extract f h=j:=⟨_,rfl⟩;have C:=ao ad;clear ad;have a:Hid (Rd r s f h wr/\At s f h J/\J.length<=n/\y.length<=2048):=by
   obtain⟨o,p,H,aN,aO,aP,aQ,az,aR⟩:=i.out;refine⟨o,p,ay az d.out.2.2.2.1,?_⟩;have:=lj s (s.size-e) e (ak _);rw[<-d.out.2.1.cons.2.1]at this;omega
  cases hc:(j.toList==[41])
  ·have aS:(j.toList=[41])=False:=by simpa using hc
   have aT:(j.toList !=[41])=true:=by simpa using hc
   have P:Hid (ye (s.extract f h)=false):=by rw[C.out];exact hc
   go_wp2_with (first
    | (go_at_call 63;refine(oD r s f h j wr a.out.1 a.out.2.1.1 a.out.2.1.2.1 C.out).mono ?_;rintro g ai ⟨rfl,x,rfl⟩)
    | (go_at_call 62;refine(al.out r s f h J (wr.drewN x) (a.out.1.drew x) a.out.2.1 E a.out.2.2.1).mono ?_;rintro g F ⟨k,aJ,t,an,aI,aq,ok,rfl,A⟩;obtain⟨ag,ah,aU⟩:=xk q i.out A.out.1;have aA:w.heap.size<F.heap.size:=(by omega);obtain⟨⟨K,L,M,N⟩,ar,au,aw,ax⟩:=ag.cells;obtain⟨⟨y0,y1,y2,aK⟩,aD,aE,aG,aH⟩:=ah.cells;clear ag ah;cases ok)
    | (at_builtin;have z:=ao (LG q i.out A.out.1 a.out.2.2.2);refine wpList_append_lies _ rfl _ _ 28 rfl (w.heap.size+2) 30 aC _ 4 56 Tryz.underlying28 B.out.1 B.out.2.1 B.out.2.2.1 B.out.2.2.2 rfl (by decide) _ u _ rfl (z.out.2.2 _ _) ⟨F.heap.size+1,0,none⟩ 1 1 [ab k,ab aJ,af t,ae an aI aq] rfl rfl (Ft _ _ _ _ _ _ _) (Iw _ _ _ _ _ _) (by decide) (by have:=z.out.2.1;unfold maxLen;omega) (by have:=z.out.2.1;omega) (by simp;omega) (F.heap.size+2) (by simp) ?_;intro aM aL aZ X T S aB;have O:=ao (GO q i.out P.out A.out z.out.1 X T S);obtain⟨⟨a0,a1,a2,a3⟩,aV,aW,aX,aY⟩:=O.out.1.cells;clear X T S aB))
   ·exact av (v:=.tuple #[.agg #[ab 0,ab 0,af ⟨#[]⟩,ae none 0 0],.bool false]) (by simp[results,Tryz.results94,go_sem,K,L,M,N,aA]) rfl ⟨0,0,⟨#[]⟩,none,0,0,false,rfl,(lp.box q (GN d.out.2.2.2.2 i.out P.out A.out _) _ _ _ _).alloc _⟩
   ·obtain⟨ap,g,o,p⟩:=O.out.2;go_roundw
    case rel=>exact⟨ap,g,_,_,_,o,trivial⟩
    case measure=>exact p
  ·go_wp2_with (first
     | (go_at_call 63;refine(oD r s f h j wr a.out.1 a.out.2.1.1 a.out.2.1.2.1 C.out).mono ?_;rintro g ai ⟨rfl,x,rfl⟩)
     | (go_at_call 61;refine(qH r s f h (wr.drewN x) (a.out.1.drew x) a.out.2.1.2.1 E).mono ?_;rintro g F ⟨rfl,m⟩;obtain⟨o,p,H⟩:=GL q d.out.2.2.2.2 Q.out (by rw[C.out];exact hc) m.out.1 m.out.2;obtain⟨⟨K,L,M,N⟩,ar,au,aw,ax⟩:=p.cells;obtain⟨⟨y0,y1,y2,aK⟩,aD,aE,aG,aH⟩:=H.cells;have aj:=ao (lp.box q o);clear o p H))
   exact av (v:=.tuple #[.agg #[ab 4,ab 0,af ⟨#[]⟩,ae D u c],.bool true]) (by simp[results,Tryz.results94,go_sem,K,L,M,N]) rfl ⟨4,0,⟨#[]⟩,D,u,c,true,rfl,aj.out _ _ _ _⟩
theorem IL{x:ByteArray}(a:x.toList=[]):fk x=false:=by
 rw[b8]at a;have b:x.size=0:=by
  have:x.data.toList.length=x.size:=by simp
  rw[a]at this;exact this.symm
 simp[fk,b8,eC,a,b]
theorem lp.undrew{n r:Nat}{s:ByteArray}{a:List fo}{w w1:World}{m:Nat}{v:Value}{ok:Bool}(b:lp n s r a (w.drewN m) w1 v ok):lp n s r a w w1 v ok:=by
 obtain⟨c,d⟩:=b;exact⟨bR (eu w m _) c,d⟩
theorem IN{n r:Nat}{s:ByteArray}{b e:Nat}{d:List fo}{w w1 w2:World}{x:ByteArray}(a:At s b e d)(h:s.extract b e=x)(z:s.size<=2048)(i:BW x=false){k f:Int}{t:ByteArray}(c:fk x=true)(u:(k,f,t)=kK x)(A:t.size<=x.size)(p:dn k)(q:dn f){o:Obj}(m:aj w w1)(v:Rd r s (dx s e) (ee s e) w2)(g:(w1.alloc o).grownBy w2 (some r)):lp (n+1) s r d w w2 (.agg #[ab k,ab f,af t,ae none 0 0]) true:=by
 have B:x.size<=2048:=by rw[<-h];simp;have:=a.2.1;omega
 refine⟨bR (fy (nG (gm w _) m) o) g,dx s e,ee s e,jA s e,v,At.next a.2.1,λ_=>?_,by simp⟩;cases d with
 | nil=>
  have:=a.nil;rw[h]at this;rw[IL this]at c;exact absurd c (by simp)
 | cons C d=>
  obtain⟨j,l,_⟩:=a.cons;subst j l;rw[h];refine⟨⟨((k,f,t),(none,0),[]),rfl,⟨_,_,rfl,ah ⟨i,c,u,rfl,rfl⟩⟩,⟨⟨p,q,by unfold maxLen;simp only;omega,aE _,aE _⟩,ah rfl⟩,ah rfl⟩,λy=>?_⟩;simp only[BV,i,c];simp
theorem K8{n r:Nat}{s:ByteArray}{b e:Nat}{a:List fo}{w w1:World}{x:ByteArray}(d:At s b e a)(k:s.extract b e=x)(j:BW x=false)(i:fk x=false)(c:Rd r s b e w)(f:aj w w1)(v:Value):lp (n+1) s r a w w1 v false:=by
 refine⟨nG (gm w _) f,b,e,a,c.block (f.block r c.lt),d,by simp,λ_ l=>?_⟩;cases a with
 | nil=>rfl
 | cons m a=>
  obtain⟨g,h,_⟩:=d.cons;subst g h;simp only[BV,k,j,i];simp[Jf]
theorem ES{w w1:World}{m:Nat}(a:Below (w.drewN m).heap.size (w.drewN m) w1):aj w w1:=⟨a.os,a.tape,a.output,a.size,a.block⟩
theorem tL{w w2:World}{r:Nat}{v0 v1 v2 v3:Value}(a:r<w.heap.size)(g:(w.alloc (.cells #[v0,v1,v2,v3] 30)).grownBy w2 (some r)):Bx w.heap.size v0 v1 v2 v3 w2:=
 (Bx.new w v0 v1 v2 v3).block (g.block _ (by simp) (by simp;omega))
theorem xg(n:Nat)(r:Nat)(s:ByteArray)(b e:Nat)(p:List fo)(w:World)(l:Rd r s b e w)(D:At s b e p)(E:s.size<=2048)(ih:∀w':World,Rd r s b e w'->BW (s.extract b e)=true->am 94 #[aF r] w' λd W=>Km (n+1) s r p w' W d):am 62 #[aF r] w λd w'=>Km (n+1) s r p w w' d:=by
 have h:=l.lt;have a:=ao (⟨l,D⟩:_/\_);have O:=ao ih;clear l D ih;obtain⟨c,m⟩:∃c,s.extract b e=c:=⟨_,rfl⟩;have g:=ao m;have V:c.size<=2048:=by rw[<-m];simp;have:=a.out.2.2.1;omega
 clear m;cases hc:(c.toList==[40])
 ·have ad:(c.toList=[40])=False:=by simpa using hc
  have ag:(c.toList !=[40])=true:=by simpa using hc
  go_enter Tryz.func62,Tryz.ntmps62
  go_wp2_with (first
   | (go_at_call 63;refine(oD r s b e c _ (a.out.1.alloc _) a.out.2.1 a.out.2.2.1 g.out).mono ?_;rintro d L ⟨rfl,o,rfl⟩)
   | (go_at_call 63;refine(oD r s b e c _ ((a.out.1.alloc _).drew o) a.out.2.1 a.out.2.2.1 g.out).mono ?_;rintro d L ⟨rfl,al,rfl⟩)
   | (go_at_call 95;refine(Ge c _ V).mono ?_;rintro d q ⟨⟨k,f,t,ok,rfl,A⟩,HB⟩;replace HB:=ES HB;obtain⟨⟨u,x,y,z⟩,P,Q,R,S⟩:=xE HB;have T:w.heap.size<q.heap.size:=(by have:=HB.size;simp at this;omega);have U:r<q.heap.size:=(by omega);replace HB:=ao HB;cases ok)
   | (go_at_call 61;refine(qH r s b e _ ((((a.out.1.alloc _).block (HB.out.block r (by simp;omega)))).alloc _) a.out.2.2.1 E).mono ?_;rintro d au ⟨rfl,i⟩;have N:=ao (bR (fy (nG (gm _ _) HB.out) _) i.out.2);obtain⟨⟨X,Y,Z,aa⟩,an,ap,aq,ar⟩:=(tL h N.out).cells;obtain⟨⟨y0,y1,y2,aw⟩,ah,ai,aj,ak⟩:=(tL U i.out.2).cells;obtain⟨G,H,I,J,K⟩:=A.out;have M:=ao (lp.box h (IN (n:=n) a.out.2 g.out E hc G.symm (H (by trivial)) I J K HB.out i.out.1 i.out.2));clear G H I J K))
  ·exact av (v:=.tuple #[.agg #[ab k,ab f,af t,ae none 0 0],.bool false]) (by simp[results,Tryz.results62,go_sem,u,x,y,z,T]) rfl ⟨k,f,t,none,0,0,false,rfl,(lp.box h (K8 a.out.2 g.out hc A.out.1.symm (a.out.1.alloc _) HB.out _) _ _ _ _).alloc _⟩
  ·exact av (v:=.tuple #[.agg #[ab k,ab f,af t,ae none 0 0],.bool true]) (by simp[results,Tryz.results62,go_sem,X,Y,Z,aa]) rfl ⟨k,f,t,none,0,0,true,rfl,M.out _ _ _ _⟩
 ·go_enter Tryz.func62,Tryz.ntmps62
  go_wp2_with (first
   | (go_at_call 63;refine(oD r s b e c _ (a.out.1.alloc _) a.out.2.1 a.out.2.2.1 g.out).mono ?_;rintro d L ⟨rfl,o,rfl⟩)
   | (go_at_call 94;refine(O.out _ ((a.out.1.alloc _).drew o) (by rw[g.out];exact hc)).mono ?_;rintro d q ⟨k,f,t,B,F,C,ok,rfl,j⟩;replace j:=ao j.out.undrew;obtain⟨⟨u,x,y,z⟩,P,Q,R,S⟩:=(tL h j.out.1).cells))
  exact av (v:=.tuple #[.agg #[ab k,ab f,af t,ae B F C],.bool ok]) (by simp[results,Tryz.results62,go_sem,u,x,y,z]) rfl ⟨k,f,t,B,F,C,ok,rfl,lp.box h j.out _ _ _ _⟩
theorem Gg(n:Nat):LX n:=by
 induction n with
 | zero=>
  intro g h b d c k j a f l;refine xg 0 g h b d c k j a f λm _ e=>?_;have i:c=[]:=bH (by omega);subst i;simp[BW,a.nil]at e
 | succ n ih=>
  intro g h b d c k j a f l;refine xg (n+1) g h b d c k j a f λm o e=>?_;cases c with
  | nil=>simp[BW,a.nil]at e
  | cons t c=>
   have i:=a.cons.1;refine DC n ih g h b d t c m o a f (by simp at l;omega) ?_;rw[i];exact e
def nT:Value:=.agg #[ab 0,ab 0,af ⟨#[]⟩,ae none 0 0]
def Oe(s:ByteArray)(w w':World)(v:Value)(pos b:Int):Prop:=
 (2048<s.size/\v=nT/\pos=0/\b=2)\/(∃c:Nat,s.size<=2048/\BV s.size (jA s 0) 0=some c/\v=nT/\pos=c/\b=3)\/
  (s.size<=2048/\BV s.size (jA s 0) 0=none/\∃(n:Nat)(a:Tm n),Is n a (jA s 0) []/\In w'.heap.size w' n a/\bZ (λd=>w.heap.size<=d) n a/\pos=0/\b=bu n a/\((bu n a≠0/\v=nT)\/(bu n a=0/\v=dj n a)))
def Od(s:ByteArray)(w w':World)(e:Ending):Prop:=
 ∃(k d:Int)(t:ByteArray)(a:Option Addr)(l c:Nat)(pos b:Int),e=.returned (.tuple #[.agg #[ab k,ab d,af t,ae a l c],ab pos,ab b])/\
  Hid (Oe s w w' (.agg #[ab k,ab d,af t,ae a l c]) pos b/\aj w w')
theorem uU{w:World}{q b:Nat}(a:b≠q)(v0 v1 v2 v3:Value):((((w.setCell ⟨q,0,none⟩ v0).setCell ⟨q,1,none⟩ v1).setCell ⟨q,2,none⟩ v2).setCell ⟨q,3,none⟩ v3).heap[b]?=w.heap[b]? :=by
 rw[eG _ _ _ _ (by simpa using a),eG _ _ _ _ (by simpa using a),eG _ _ _ _ (by simpa using a),eG _ _ _ _ (by simpa using a)]
theorem wV{w:World}{q:Nat}(v0 v1 v2 v3:Value):((((w.setCell ⟨q,0,none⟩ v0).setCell ⟨q,1,none⟩ v1).setCell ⟨q,2,none⟩ v2).setCell ⟨q,3,none⟩ v3).heap.size=w.heap.size:=by simp[World.setCell]
theorem F6{s:ByteArray}{w w2 a:World}(g:((w.alloc (.cells #[ab 0,ab 0,af ⟨#[]⟩,ae none 0 0] 30)).alloc (.cells #[af s,ab 0,ab 0] 133)).grownBy w2 (some (w.heap.size+1)))(b:w2.grownBy a (some (w.heap.size+1))):Bx w.heap.size (ab 0) (ab 0) (af ⟨#[]⟩) (ae none 0 0) a/\w.heap.size+1<a.heap.size/\aj w a/\w.heap.size+2<=w2.heap.size:=by
 have c:=bR g b;have e:=g.size;have h:=b.size;simp at e;refine⟨((Bx.new w _ _ _ _).block (ft _ _ (by simp))).block (c.block _ (by simp;omega) (by simp)),by omega,?_,by omega⟩;exact(((ap _ _).alloc (ak _) _).alloc (by simp) _).grown c (by simp;omega) (λf d=>by simp at d;omega)
theorem In.drewN{B:Nat}{w:World}{n:Nat}{x:Tm n}(m:Nat){P:Nat->Prop}(k:bZ P n x)(a:In B w n x):In B (w.drewN m) n x:=In.off (w:=w) (w':=w.drewN m) (λ_ _=>rfl) k a
theorem Ja{s:ByteArray}{w w2 c:World}{v:Value}{b e:Nat}{a:List fo}{x:ByteArray}(A:s.extract b e=x)(z:(x.toList==[])=true)(D:s.size<=2048)(r:At s b e a)(E:w.heap.size+2<=w2.heap.size)(l:(∃x:Tm 2049,dj 2049 x=v/\Is 2049 x (jA s 0) a/\In c.heap.size c 2049 x/\bZ (λq=>w2.heap.size<=q) 2049 x)/\∀d,BV s.size (jA s 0) d=jG s.size a d)(o:Obj)(m:Nat):∃y:Tm 2049,v=dj 2049 y/\Is 2049 y (jA s 0) []/\In ((c.alloc o).drewN m).heap.size ((c.alloc o).drewN m) 2049 y/\bZ (λq=>w.heap.size+2<=q) 2049 y/\(aw 2049 y).length<=2097152/\BV s.size (jA s 0) 0=none:=by
 obtain⟨⟨y,n,h,i,f⟩,p⟩:=l;have j:a=[]:=by
  cases a with
  | nil=>rfl
  | cons t a=>
   have k:=r.cons.2.2;rw[A]at k;have g:x.toList=[]:=by simpa using z
   rw[b8]at g;have:x.data.toList.length=x.size:=by simp
   rw[g]at this;simp at this;omega
 subst j;have B:=Is.nodes 2049 y (jA s 0) [] h;have g:=lj s s.size 0 (by omega);refine⟨y,n.symm,h,In.drewN m f ((In.off (λb u=>ft c o u.2) (In.offB f i) i).mono (by simp)),f.mono λq C=>by omega,by simp at B;omega,p 0⟩
theorem I8{w a c:World}{m:Nat}{v0 v1 v2 v3:Value}(d:Bx w.heap.size (ab 0) (ab 0) (af ⟨#[]⟩) (ae none 0 0) a)(b:Below ((a.alloc (.cells #[v0,v1,v2,v3] 30)).drewN m).heap.size ((a.alloc (.cells #[v0,v1,v2,v3] 30)).drewN m) c):Bx w.heap.size (ab 0) (ab 0) (af ⟨#[]⟩) (ae none 0 0) c/\Bx a.heap.size v0 v1 v2 v3 c:=by
 have e:=d.lt;exact⟨(d.block (ft _ _ e)).block (b.block _ (by simp;omega)),(Bx.new a v0 v1 v2 v3).block (b.block _ (by simp))⟩
theorem I9{s:ByteArray}{b e:Nat}{a:List fo}{x:ByteArray}(g:s.extract b e=x)(d:(x.toList==[])=false)(c:At s b e a)(f:BV s.size (jA s 0) 0=jG s.size a 0):BV s.size (jA s 0) 0=some b:=by
 rw[f,<-c.pos];cases a with
 | nil=>rw[<-g]at d;simp[c.nil]at d
 | cons t a=>rfl
theorem I7{w w4 a:World}{n:Nat}{y:Tm n}(c:In w4.heap.size w4 n y)(k:bZ (λq=>w.heap.size+2<=q) n y)(b:aj w4 a)(v0 v1 v2 v3:Value):In ((((a.setCell ⟨w.heap.size,0,none⟩ v0).setCell ⟨w.heap.size,1,none⟩ v1).setCell ⟨w.heap.size,2,none⟩ v2).setCell ⟨w.heap.size,3,none⟩ v3).heap.size ((((a.setCell ⟨w.heap.size,0,none⟩ v0).setCell ⟨w.heap.size,1,none⟩ v1).setCell ⟨w.heap.size,2,none⟩ v2).setCell ⟨w.heap.size,3,none⟩ v3) n y:=by
 rw[wV];exact In.off (λq d=>uU (by omega) _ _ _ _) k ((c.below b).mono b.size)
theorem pA{w w1:World}(a:aj w w1)(v0 v1 v2 v3:Value):aj w ((((w1.setCell ⟨w.heap.size,0,none⟩ v0).setCell ⟨w.heap.size,1,none⟩ v1).setCell ⟨w.heap.size,2,none⟩ v2).setCell ⟨w.heap.size,3,none⟩ v3):=
 ⟨a.os,a.tape,a.output,by rw[wV];exact a.size,λk b=>(uU (by omega) _ _ _ _).trans (a.block k b)⟩
theorem kC{B:Nat}{w w1:World}(a:Below B w w1)(m:Nat):Below B w (w1.drewN m):=⟨a.os,a.tape,a.output,a.size,a.block⟩
theorem lH{w w1:World}(a:aj w w1)(o:Obj):aj w (w1.alloc o):=a.alloc a.size o
theorem F7(s:ByteArray)(w:World)(S:s.size<=maxLen):am 36 #[af s] w λe w'=>Od s w w' e:=by
 unfold maxLen at S;by_cases D:2048<s.size
 ·have Q:(2048:Int)<s.size:=by omega
  go_enter Tryz.func36,Tryz.ntmps36;go_wp2_with fail;exact av (v:=.tuple #[nT,ab 0,ab 2]) (by simp[results,Tryz.results36,go_sem,nT]) rfl ⟨0,0,⟨#[]⟩,none,0,0,0,2,rfl,ah ⟨D,rfl,rfl,rfl⟩,by go_grown⟩
 ·have Q:(s.size:Int)<=2048:=by omega
  have i:s.size<=2048:=by omega
  clear D;have P:Hid (Rd (w.heap.size+1) s 0 0 ((w.alloc (.cells #[ab 0,ab 0,af ⟨#[]⟩,ae none 0 0] 30)).alloc (.cells #[af s,ab 0,ab 0] 133))):=by
   have:=aB (w.alloc (.cells #[ab 0,ab 0,af ⟨#[]⟩,ae none 0 0] 30)) (.cells #[af s,ab 0,ab 0] 133);simpa [Hid,Rd]using this
  go_enter Tryz.func36,Tryz.ntmps36
  go_wp2_with (first
   | (go_at_call 61;refine(qH (w.heap.size+1) s 0 0 _ P.out (aE _) i).mono ?_;rintro o U ⟨rfl,B⟩)
   | (go_at_call 62;refine(Gg 2048 (w.heap.size+1) s _ _ (jA s 0) U B.out.1 (At.next (aE _)) i (ay (lj s s.size 0 (by omega)) (by omega))).mono ?_;rintro o V ⟨k,A,t,y,l,c,ok,rfl,C⟩;obtain⟨q,au,G,H⟩:=F6 B.out.2 C.out.1;obtain⟨⟨K,L,M,N⟩,ad,ag,aj,al⟩:=q.cells;have E:w.heap.size<V.heap.size:=(by omega);obtain⟨_,d,o,aF,b⟩:=C.out;replace b:=ao b;obtain⟨⟨W,X,Y⟩,aw,ax⟩:=b.out.1.cells;have HB:=ao (⟨G,H⟩:_/\_);replace q:=ao q;clear G H;obtain⟨r,F⟩:∃r,s.extract d o=r:=⟨_,rfl⟩;have x:=ao F;clear F;cases ok)
   | (go_at_call 63;refine(oD (w.heap.size+1) s d o r _ (b.out.1.alloc _) b.out.2.1.1 b.out.2.1.2.1 x.out).mono ?_;rintro Z aG ⟨rfl,m,rfl⟩;cases hc:(r.toList==[]))
   | (go_at_call 51;obtain⟨u,p,a⟩:=Ja x.out hc i b.out.2.1 HB.out.2 (b.out.2.2.1 (by trivial)) _ m;replace a:=ao a;refine(show Calls _ _ #[.agg #[ab k,ab A,af t,ae y l c]] _ _ from p▸dD 2049 u _ _ a.out.2.1 (ak _) a.out.2.2.2.1).mono ?_;rintro aa aH ⟨rfl,h⟩;obtain⟨I,J⟩:=I8 q.out h;obtain⟨⟨y0,y1,y2,O⟩,an,ap,aq,ar⟩:=I.cells;obtain⟨⟨aI,aJ,aK,aL⟩,az,aA,aC,aD⟩:=J.cells;have n:=ao h;clear I J h;replace p:=ao p;obtain⟨j,g⟩:∃j,bu 2049 u=j:=⟨_,rfl⟩;rw[g];replace g:=ao g;by_cases z:j=0))
  ·go_region;go_wp2_with fail;have f:=HB.out.1;exact av (v:=.tuple #[nT,ab d,ab 3]) (by simp[results,Tryz.results36,go_sem,nT,E,K,L,M,N]) rfl ⟨0,0,⟨#[]⟩,none,0,0,d,3,rfl,ai (ah ⟨d,i,by rw[<-b.out.2.1.pos];exact b.out.2.2.2 (by trivial) 0,rfl,rfl,rfl⟩),by go_grown⟩
  ·go_region;go_wp2_with fail;have f:=HB.out.1;exact av (v:=.tuple #[nT,ab d,ab 3]) (by simp[results,Tryz.results36,go_sem,nT,E,K,L,M,N]) rfl ⟨0,0,⟨#[]⟩,none,0,0,d,3,rfl,ai (ah ⟨d,i,I9 x.out hc b.out.2.1 ((b.out.2.2.1 (by trivial)).2 0),rfl,rfl,rfl⟩),pA (kC (lH f _) _) _ _ _ _⟩
  ·have f:=HB.out.1;have h:=n.out;exact av (v:=.tuple #[.agg #[ab k,ab A,af t,ae y l c],ab 0,ab 0]) (by simp[results,Tryz.results36,go_sem,y0,y1,y2,O]) rfl ⟨k,A,t,y,l,c,0,0,rfl,ai (ai ⟨i,a.out.2.2.2.2,2049,u,a.out.1,I7 a.out.2.1 a.out.2.2.1 n.out _ _ _ _,a.out.2.2.1.mono (λT R=>by omega),rfl,(g.out.trans z).symm,ai ⟨g.out.trans z,p.out⟩⟩),pA ((kC (lH f _) m).trans (h.mono (kC (lH f _) m).size)) _ _ _ _⟩
  ·have f:=HB.out.1;have h:=n.out;exact av (v:=.tuple #[nT,ab 0,ab j]) (by simp[results,Tryz.results36,go_sem,nT,y0,y1,y2,O]) rfl ⟨0,0,⟨#[]⟩,none,0,0,0,j,rfl,ai (ai ⟨i,a.out.2.2.2.2,2049,u,a.out.1,I7 a.out.2.1 a.out.2.2.1 n.out _ _ _ _,a.out.2.2.1.mono (λT R=>by omega),rfl,g.out.symm,ah ⟨by rw[g.out];exact z,rfl⟩⟩),pA ((kC (lH f _) m).trans (h.mono (kC (lH f _) m).size)) _ _ _ _⟩
def MS{a:Type}(f:a->List fo->Option (List fo)):List a->List fo->Option (List fo)
 | [],ts=>some ts
 | x::l,ts=>(f x ts).bind (MS f l)
def N3:(n:Nat)->Tm n->List fo->Option (List fo)
 | 0,_,_=>none
 | _+1,_,[]=>none
 | n+1,x,t::ts=>if BW t.2=true then if x.1=(4,0,⟨#[]⟩)then (MS (N3 n) x.2.2 ts).bind λr=>match r with
    | []=>none
    | c::r=>if ye c.2=true then some r else none else none
  else if fk t.2=true/\x.1=kK t.2/\x.2.2.length=0 then some ts else none
theorem Ei{b:Type}{f:b->List fo->Option (List fo)}{g:b->List fo->List fo->Prop}(c:∀x a r,f x a=some r->g x a r):(l:List b)->∀{a r:List fo},MS f l a=some r->DK g l a r
 | [],a,r,e=>by
  have e:some a=some r:=e;exact au e
 | x::l,a,r,e=>by
  obtain⟨m,d,h⟩:=br.1 e;exact⟨m,c x a m d,Ei c l h⟩
theorem ID:(n:Nat)->(x:Tm n)->(e r:List fo)->N3 n x e=some r->Is n x e r
 | 0,_,_,_,h=>by cases h
 | _+1,_,[],_,h=>by cases h
 | n+1,x,t::e,r,h=>by
  unfold N3 at h;refine⟨t,e,rfl,?_⟩;by_cases d:BW t.2=true
  ·rw[if_pos d]at h;by_cases g:x.1=(4,0,⟨#[]⟩)
   ·rw[if_pos g]at h;obtain⟨m,i,a⟩:=br.1 h;cases m with
    | nil=>cases a
    | cons c m=>
     simp only at a;by_cases f:ye c.2=true
     ·rw[if_pos f]at a;obtain rfl:=au a;exact ai ⟨d,g,c,Ei (ID n) x.2.2 i,f⟩
     ·rw[if_neg f]at a;cases a
   ·rw[if_neg g]at h;cases h
  ·rw[if_neg d]at h;by_cases b:fk t.2=true/\x.1=kK t.2/\x.2.2.length=0
   ·rw[if_pos b]at h;exact ah ⟨by simpa using d,b.1,b.2.1,bH b.2.2,(au h).symm⟩
   ·rw[if_neg b]at h;cases h
def nU(s:ByteArray)(n:Nat)(y:Tm n):Prop:=s.size<=2048/\BV s.size (jA s 0) 0=none/\N3 n y (jA s 0)=some []
theorem AX{s:ByteArray}{n:Nat}{y:Tm n}(i:nU s n y)(u:bu n y=0)(w:World):am 36 #[af s] w λe w'=>∃(m:Nat)(x:Tm (m+1)),e=.returned (.tuple #[.agg #[ab x.1.1,ab x.1.2.1,af x.1.2.2,ae x.2.1.1 x.2.2.length x.2.1.2],ab 0,ab 0])/\Hid (ax (m+1) x n y=true/\In w'.heap.size w' (m+1) x/\bZ (λq=>w.heap.size<=q) (m+1) x/\aj w w'):=by
 obtain⟨j,o,p⟩:=i;refine(F7 s w (ay j (by unfold maxLen;omega))).mono ?_;rintro e w' ⟨k,E,t,B,l,c,pos,C,rfl,h⟩;obtain⟨z,r⟩:=h.out;rcases z with⟨a,_⟩|⟨D,_,a,_⟩|⟨_,_,m,x,A,f,v,rfl,rfl,b⟩
 ·omega
 ·rw[o]at a;cases a
 ·have g:=(Is.one m n x y _ _ _ A (ID n y _ _ p)).1;have d:bu m x=0:=by
   rw[Gp m n x y g];exact u
  rcases b with⟨a,_⟩|⟨_,b⟩
  ·exact absurd d a
  ·cases m with
   | zero=>exact f.elim
   | succ m=>
    rw[d,b];exact⟨m,x,rfl,g,f,v,r⟩
def JR:ByteArray:=⟨#[40,99,111,100,101,32,40,98,101,104,32,99,111,117,110,116,32,40,111,110,32,36,48,32,40,117,112,32,36,49,41,32,40,41,32,40,97,100,100,32,36,48,32,36,49,41,41,32,40,111,110,32,36,48,32,40,97,115,107,32,36,49,41,32,40,40,115,101,110,100,32,36,49,32,40,104,97,118,101,32,36,48,41,41,41,32,36,48,41,32,40,111,110,32,95,32,102,111,114,107,32,40,40,115,112,97,119,110,32,99,111,117,110,116,32,48,32,36,48,41,32,40,108,105,110,107,32,36,48,41,32,40,115,101,110,100,32,36,48,32,40,117,112,32,55,41,41,41,32,49,41,32,40,111,110,32,95,32,115,116,111,112,32,40,40,115,116,111,112,41,41,32,48,41,32,40,111,110,32,95,32,98,97,100,32,40,41,32,40,97,100,100,32,97,32,97,41,41,41,41]⟩
def Ox:ByteArray:=⟨#[40,117,112,32,51,41]⟩
def Nb:ByteArray:=⟨#[102,111,114,107]⟩
def NU:ByteArray:=⟨#[98,97,100]⟩
theorem LH:nU JR 7 (bW 1 eU):=⟨by decide,by kernel_rfl,by kernel_rfl⟩
theorem NV:nU Ox 13 uE:=⟨by decide,by kernel_rfl,by kernel_rfl⟩
theorem LI:nU Nb 13 (aY sL 12):=⟨by decide,by kernel_rfl,by kernel_rfl⟩
theorem Nc:nU NU 13 (aY BH 12):=⟨by decide,by kernel_rfl,by kernel_rfl⟩
theorem nQ:bu 7 (bW 1 eU)=0/\bu 13 uE=0/\bu 13 (aY sL 12)=0/\bu 13 (aY BH 12)=0:=⟨by kernel_rfl,by kernel_rfl,by kernel_rfl,by kernel_rfl⟩
theorem Dx(s:ByteArray)(r:s=⟨#[40,99,111,100,101,32,40,98,101,104,32,99,111,117,110,116,32,40,111,110,32,36,48,32,40,117,112,32,36,49,41,32,40,41,32,40,97,100,100,32,36,48,32,36,49,41,41,32,40,111,110,32,36,48,32,40,97,115,107,32,36,49,41,32,40,40,115,101,110,100,32,36,49,32,40,104,97,118,101,32,36,48,41,41,41,32,36,48,41,32,40,111,110,32,95,32,102,111,114,107,32,40,40,115,112,97,119,110,32,99,111,117,110,116,32,48,32,36,48,41,32,40,108,105,110,107,32,36,48,41,32,40,115,101,110,100,32,36,48,32,40,117,112,32,55,41,41,41,32,49,41,32,40,111,110,32,95,32,115,116,111,112,32,40,40,115,116,111,112,41,41,32,48,41,32,40,111,110,32,95,32,98,97,100,32,40,41,32,40,97,100,100,32,97,32,97,41,41,41,41]⟩)(w:World)(o:Int->Int->ByteArray->Option Addr->Nat->Nat->World->Prop)(i:Option Addr->Nat->Nat->World->Prop)(m:Hid (am 36 #[af s] w λe w'=>∃y0 y1 y2 ya yl yc,e=.returned (.tuple #[.agg #[ab y0,ab y1,af y2,ae ya yl yc],ab 0,ab 0])/\Hid (o y0 y1 y2 ya yl yc w')))(k:Hid (∀y0 y1 y2 ya yl yc W n,o y0 y1 y2 ya yl yc W->aj W n->am 35 #[.agg #[ab y0,ab y1,af y2,ae ya yl yc]] n λe w'=>∃a l c,e=.returned (.tuple #[ae a l c,ab 0])/\Hid (i a l c w'))):am 18 #[] w λe w'=>∃a l c,e=.returned (ae a l c)/\Hid (i a l c w'):=by
 subst r;go_enter Tryz.func18,Tryz.ntmps18;go_wp2_with fail;refine m.out.mono ?_;rintro e h ⟨y0,y1,y2,ya,yl,yc,rfl,j⟩;clear m;go_upto_region 2 with fail;generalize g:h.alloc _=b;have q:=ao (k.out _ _ _ _ _ _ _ b j.out (by rw[<-g];exact(ap _ _).alloc (ak _) _));have d:b.heap[h.heap.size]?=some (.cells #[ab y0,ab y1,af y2,ae ya yl yc] 30):=by
  rw[<-g];exact aB _ _
 generalize h.heap.size=f at*;have t:b.cell? ⟨f,0,none⟩=some (ab y0):=ag d 0;have u:b.cell? ⟨f,1,none⟩=some (ab y1):=ag d 1;have v:b.cell? ⟨f,2,none⟩=some (af y2):=ag d 2;have x:b.cell? ⟨f,3,none⟩=some (ae ya yl yc):=ag d 3;clear g d k j;go_wp2_with fail;refine q.out.mono ?_;rintro e y ⟨a,l,c,rfl,p⟩;go_wp2_with fail
 go_ret
 exact⟨a,l,c,rfl,p.out⟩
theorem GH(n:Int)(s:ByteArray)(w:World)(r:Int->Int->ByteArray->Option Addr->Nat->Nat->World->Prop)(A:Hid (∀W,aj w W->w.heap.size<W.heap.size->am 36 #[af s] W λe w'=>∃y0 y1 y2 ya yl yc,e=.returned (.tuple #[.agg #[ab y0,ab y1,af y2,ae ya yl yc],ab 0,ab 0])/\Hid (aj W w'/\∀j,bq (λq=>q=w.heap.size) w' j->r y0 y1 y2 ya yl yc j))):am 21 #[ab n,af s] w λe w'=>∃y0 y1 y2 ya yl yc,e=.returned (.agg #[ab 3,ab n,ab 0,ab y0,ab y1,af y2,ae ya yl yc])/\Hid (r y0 y1 y2 ya yl yc w'/\aj w w'):=by
 go_enter Tryz.func21,Tryz.ntmps21;go_upto_region 1 with fail;generalize y:w.alloc _=o;have m:aj w o:=by rw[<-y];exact(ap _ _).alloc (ak _) _
 have u:o.heap[w.heap.size]?=some (.cells #[ab 0,ab 0,ab 0,ab 0,ab 0,af .empty,ae none 0 0] 32):=by
  rw[<-y];exact aB _ _
 have x:=(aD.1 u).1;have B:=ao (A.out o m x);clear y A;go_wp2_with fail;refine B.out.mono ?_;rintro e g ⟨y0,y1,y2,ya,yl,yc,rfl,h⟩;clear B;go_upto_region 2 with fail;generalize z:g.alloc _=d;have i:aj g d:=by rw[<-z];exact(ap _ _).alloc (ak _) _
 have l:d.heap[g.heap.size]?=some (.cells #[ab y0,ab y1,af y2,ae ya yl yc] 30):=by
  rw[<-z];exact aB _ _
 have D:=h.out.1.size;have f:=(i.block w.heap.size (by omega)).trans ((h.out.1.block w.heap.size x).trans u);have U:w.heap.size≠g.heap.size:=by omega
 have HB:=ao (⟨m.trans ((h.out.1.trans (i.mono D)).mono m.size),h,aI i _⟩:aj w d/\Hid (aj o g/\∀j,bq (λq=>q=w.heap.size) g j->r y0 y1 y2 ya yl yc j)/\bq (λq=>q=w.heap.size) g d);generalize N:w.heap.size=a at*;generalize g.heap.size=q at*;have O:d.cell? ⟨q,0,none⟩=some (ab y0):=ag l 0;have P:d.cell? ⟨q,1,none⟩=some (ab y1):=ag l 1;have Q:d.cell? ⟨q,2,none⟩=some (af y2):=ag l 2;have R:d.cell? ⟨q,3,none⟩=some (ae ya yl yc):=ag l 3;have G:d.cell? ⟨a,0,none⟩=some (ab 0):=ag f 0;have d1:d.cell? ⟨a,1,none⟩=some (ab 0):=ag f 1;have H:d.cell? ⟨a,2,none⟩=some (ab 0):=ag f 2;have I:d.cell? ⟨a,3,none⟩=some (ab 0):=ag f 3;have J:d.cell? ⟨a,4,none⟩=some (ab 0):=ag f 4;have K:d.cell? ⟨a,5,none⟩=some (af .empty):=ag f 5;have L:d.cell? ⟨a,6,none⟩=some (ae none 0 0):=ag f 6;have T:∀k,d.frozen? ⟨a,k,none⟩=false:=λk=>by simp[World.frozen?,f]
 clear z i l f h u x D m;go_wp2_with fail;obtain⟨F,h,i⟩:=HB.out;have E:bq (λb=>b=a) d (((((((d.setCell ⟨a,0,none⟩ (ab 3)).setCell ⟨a,1,none⟩ (ab n)).setCell ⟨a,2,none⟩ (ab 0)).setCell ⟨a,3,none⟩ (ab y0)).setCell ⟨a,4,none⟩ (ab y1)).setCell ⟨a,5,none⟩ (af y2)).setCell ⟨a,6,none⟩ (ae ya yl yc)):=by
  have t:∀{C b c:World},bq (λq=>q=a) C b->bq (λq=>q=a) b c->bq (λq=>q=a) C c:=λM k=>M.trans k λ_ _ p=>p;exact t (t (t (t (t (t (bz _ _ _ _) (bz _ _ _ _)) (bz _ _ _ _)) (bz _ _ _ _)) (bz _ _ _ _)) (bz _ _ _ _)) (bz _ _ _ _)
 refine av (v:=.agg #[ab 3,ab n,ab 0,ab y0,ab y1,af y2,ae ya yl yc]) (by simp[results,Tryz.results21,go_sem,G,d1,H,I,J,K,L]) rfl ⟨y0,y1,y2,ya,yl,yc,rfl,h.out.2 _ (i.trans E λ_ _ p=>p),?_⟩;rw[N];exact F.trans (E.below (by have:=F.size;omega) λb S p=>by omega)
theorem GG(x:Nat)(g n c:Nat)(kd f h i k:Nat->Int)(l:Nat->ByteArray)(xa:Nat->Option Addr)(m xc:Nat->Nat)(w:World)(K:Nat->World->Prop)(P:n<=1000)(s:Hid (K 0 w))(o:Hid (∀j W,j<n->K j W->(W.cell? ⟨g,j*7,none⟩=some (ab (kd j))/\W.cell? ⟨g,j*7+1,none⟩=some (ab (f j))/\W.cell? ⟨g,j*7+2,none⟩=some (ab (h j))/\W.cell? ⟨g,j*7+3,none⟩=some (ab (i j))/\W.cell? ⟨g,j*7+4,none⟩=some (ab (k j))/\W.cell? ⟨g,j*7+5,none⟩=some (af (l j))/\W.cell? ⟨g,j*7+6,none⟩=some (ae (xa j) (m j) (xc j)))/\Hid (∀u,aj W u->am 8 #[aF x,.agg #[ab (kd j),ab (f j),ab (h j),ab (i j),ab (k j),af (l j),ae (xa j) (m j) (xc j)]] u λe w'=>e=.returned (ab 0)/\Hid (K (j+1) w')))):am 20 #[aF x,ae (some ⟨g,0,none⟩) n c] w λe w'=>e=.returned (.bool true)/\Hid (K n w'):=by
 go_enter Tryz.func20,Tryz.ntmps20;go_wp2_with fail;go_loopw [6,9] (λ_ r wr=>∃(j:Nat),j<=n/\r=ab j/\Hid (K j wr)) (λ_ r _=>n-(intOf r).toNat)
 case atStart=>exact⟨0,aE _,rfl,s.out⟩
 case round=>
 clear s;obtain⟨j,H,rfl,p⟩:=hrel;by_cases v:j<n
 ·obtain⟨⟨A,B,C,D,E,F,G⟩,t⟩:=o.out j _ v p.out;have Q:(0:Int)<=(j:Int):=by omega
  have R:(j:Int)<(n:Int):=by omega
  clear o p;go_upto_region 4 with fail;generalize q:World.alloc _ _=a;have b:a.heap[wr.heap.size]?=some (.cells #[ab (kd j),ab (f j),ab (h j),ab (i j),ab (k j),af (l j),ae (xa j) (m j) (xc j)] 32):=by
   rw[<-q];exact aB _ _
  have z:=ao (t.out a (by rw[<-q];exact(ap _ _).alloc (ak _) _));generalize wr.heap.size=d at*;have I:a.cell? ⟨d,0,none⟩=some (ab (kd j)):=ag b 0;have d1:a.cell? ⟨d,1,none⟩=some (ab (f j)):=ag b 1;have J:a.cell? ⟨d,2,none⟩=some (ab (h j)):=ag b 2;have L:a.cell? ⟨d,3,none⟩=some (ab (i j)):=ag b 3;have M:a.cell? ⟨d,4,none⟩=some (ab (k j)):=ag b 4;have N:a.cell? ⟨d,5,none⟩=some (af (l j)):=ag b 5;have O:a.cell? ⟨d,6,none⟩=some (ae (xa j) (m j) (xc j)):=ag b 6;clear q b t A B C D E F G;go_wp2_with fail;refine z.out.mono ?_;rintro e S ⟨rfl,y⟩;go_wp2_with fail;go_roundw
  case rel=>exact⟨j+1,by omega,by go_num,y.out⟩
  case measure=>simp[intOf];omega
 obtain rfl:j=n:=by omega
 clear o H v;go_wp2_with fail
 go_ret
 exact⟨rfl,p.out⟩
def xw(w:World)(a:Option Addr)(L c:Nat)(W:World):Prop:=∃(M:Nat)(q:List (Bh (M+1))),q.length=L/\aj w W/\(L<=c/\c<=maxLen)/\gP (M+1) W.heap.size W a q/\nt M q=0/\ax (M+6) (bW M q) 7 (bW 1 eU)=true
theorem GB(w:World):am 18 #[] w λe w'=>∃a l c,e=.returned (ae a l c)/\Hid (xw w a l c w'):=by
 refine Dx JR rfl w (λy0 y1 y2 ya yl yc f=>∃(b:Nat)(d:Tm (b+1)),(d.1=(y0,y1,y2)/\d.2.1=(ya,yc)/\d.2.2.length=yl)/\ax (b+1) d 7 (bW 1 eU)=true/\In f.heap.size f (b+1) d/\aj w f) (xw w) ((AX LH nQ.1 w).mono ?_) λy0 y1 y2 ya yl yc f m D i=>?_
 ·rintro e w' ⟨b,d,rfl,h⟩;obtain⟨z,A,_,B⟩:=h.out;exact⟨_,_,_,_,_,_,rfl,b,d,⟨rfl,rfl,rfl⟩,z,A,B⟩
 ·obtain⟨b,d,⟨n,o,y⟩,j,E,p⟩:=D;obtain⟨⟨K,L,M⟩,⟨N,O⟩,P⟩:=d;simp only[fM]at n o;obtain⟨rfl,rfl,rfl⟩:=n;obtain⟨rfl,rfl⟩:=o;subst y;have g:=(bM j).trans nQ.1;obtain⟨Q,k,t,_⟩:=Jl b (b+1) 1 (ak _) eU (fE Ig).1 _ (pB g) j;have C:Al b (b+1) ((K,L,M),(N,O),P)=0:=by
   unfold Al;rw[if_pos g,k];unfold Am;simp only[t,cI]
  have r:=Ao b (b+1) (ak _) _ m.heap.size m ((E.below i).mono i.size) (eN g) (ak _);rw[C]at r;refine r.mono ?_;rintro e w' ⟨u,a,c,rfl,h⟩;obtain⟨G,H,I,_,_,J⟩:=h.out;obtain⟨R,s,F⟩:=J rfl;rw[k]at s;obtain rfl:=au s;obtain⟨_,v,x,_⟩:=wO (ak _) g k F t;rw[(fE v).2.2]at x;have q:=p.trans (i.mono p.size);exact⟨a,u.length,c,rfl,b,u,rfl,q.trans (G.mono q.size),H,I,v,bQ _ _ _ _ _ _ x j⟩
def tC(w0:World)(s:Sy)(i a:Nat)(W:World):Prop:=∃(p:lB)(d:gu),p.b=a/\bi p s d W/\(p.room=60/\ax (p.n+6) (bW p.n p.prog) 7 (bW 1 eU)=true)/\(d.k<=i*402/\d.es.length<=i*201/\d.wn<=i*201/\d.bn<=i*201)/\aj w0 W/\w0.heap.size<=p.lo
theorem JK(w0:World){a:Option Addr}{L c:Nat}{W:World}(m:xw w0 a L c W):am 17 #[ae a L c,ab 60] W λe w'=>∃i,e=.returned (.tuple #[aF i,ab 0])/\Hid (tC w0 Kh 0 i w'):=by
 obtain⟨k,s,rfl,d,g,n,f,o⟩:=m;refine(Bo k s a c 60 W n g.1 g.2 λ_=>eN (fE f).2.1).mono ?_;rintro e w' ⟨E,x,rfl,j⟩;obtain⟨p,q,_,r⟩:=j.out;have y:x=0:=by
  rw[p];unfold Bn;rw[if_neg (by rw[f];decide),if_pos (by decide)]
 subst y;obtain⟨h,l,rfl,t,⟨z,u,A,B⟩,v,C,D,w⟩:=r rfl;exact⟨h.b,rfl,h,l,rfl,t,⟨v,bQ _ _ _ _ _ _ w o⟩,⟨by omega,by rw[u];exact aE _,by omega,by omega⟩,d.trans (q.mono d.size),by have:=d.size;omega⟩
theorem bi.sound{p:lB}{s:Sy}{d:gu}{w:World}(e:bi p s d w):∀a nm cs c,s.get a=some (nm,cs,c)->(bu 13 cs=0/\aJ 13 cs=true)/\∀t∈c,bu 13 t=0/\aJ 13 t=true:=λa nm cs c g=>by
 obtain⟨b,k⟩:∃b,cQ d.l a=some b:=by
  have:=e.alive a;rw[g]at this;exact gj.1 this
 obtain⟨q,i,h,f,j,_⟩:=e.ps a b k;rw[g]at f;obtain⟨rfl,rfl,rfl⟩:nm=q/\cs=i/\c=h:=by simpa using f
 obtain⟨m,n,o,_⟩:=j.ok;exact⟨⟨m,n⟩,o⟩
def BT(w0:World)(V:Nat->Prop)(a:World)(s:Sy)(i c:Nat)(W:World):Prop:=∃(p:lB)(d:gu),p.b=c/\bi p s d W/\(p.room=60/\ax (p.n+6) (bW p.n p.prog) 7 (bW 1 eU)=true)/\(d.k<=i*402/\d.es.length<=i*201/\d.wn<=i*201/\d.bn<=i*201)/\(aj w0 W/\w0.heap.size<=p.lo)/\(∀q,V q->q<a.heap.size/\d.ow q=0)/\bq (λq=>¬V q) a W
theorem BT.later{w0:World}{V:Nat->Prop}{d:World}{s:Sy}{i e:Nat}{W c:World}(h:BT w0 V d s i e W)(b:aj W c):BT w0 V d s i e c:=by
 obtain⟨o,f,g,j,k,l,a,m,n⟩:=h;exact⟨o,f,g,j.later b,k,l,⟨a.1.trans (b.mono a.1.size),a.2⟩,m,n.trans (aI b _) λ_ _ p=>p⟩
theorem BT.at{w0:World}{V:Nat->Prop}{c:World}{s:Sy}{i b:Nat}{W:World}(f:BT w0 V c s i b W):tC w0 s i b W:=by
 obtain⟨k,d,e,g,h,j,a,_⟩:=f;exact⟨k,d,e,g,h,j,a.1,a.2⟩
theorem tC.from{w0:World}{s:Sy}{i g:Nat}{a W:World}(l:tC w0 s i g a)(f:aj a W){V:Nat->Prop}(e:∀q,V q->a.heap.size<=q/\q<W.heap.size):BT w0 V W s i g W:=by
 obtain⟨p,b,k,c,m,n,d,o⟩:=l;refine⟨p,b,k,c.later f,m,n,⟨d.trans (f.mono d.size),o⟩,λq h=>⟨(e q h).2,?_⟩,bq.refl _ _⟩;by_cases j:b.ow q=0
 ·exact j
 ·have:=(c.low q j).2;have:=(e q h).1;omega
theorem MI{n:Nat}{P:List (Bh (n+1))}(f:ax (n+6) (bW n P) 7 (bW 1 eU)=true)(g:nt n P=0){s:Sy}(i:∀a nm cs d,s.get a=some (nm,cs,d)->(bu 13 cs=0/\aJ 13 cs=true)/\∀t∈d,bu 13 t=0/\aJ 13 t=true)(h:0<=s.last/\s.last<=90)(e:Int×Int×Int×Tc){m:Nat}{x:Tm m}(b:ax m x 13 e.2.2.2=true\/e.1≠3):s.do n P 60 e.1 e.2.1 e.2.2.1 m x=Ia s e:=by
 rw[KM f g Ig i h];rcases b with b|b
 ·by_cases c:e.1=3
  ·unfold Ia;rw[c];exact IC b s 60 e.2.1 e.2.2.1
  ·unfold Ia Sy.do;rw[if_neg c,if_neg c]
 ·unfold Ia Sy.do;rw[if_neg b,if_neg b]
theorem qZ{p:lB}{s:Sy}{d f:gu}{a c B:Nat}{w w':World}(b:bi p s d w)(k:fO a c d f w w')(h:B<=p.lo):Below B w w':=by
 refine⟨k.1.os,k.1.tape,k.1.output,k.1.size,λe i=>k.1.block e ?_ λg=>?_⟩
 ·have:=b.lo.1;omega
 ·have:=(b.low e g).1;omega
theorem LB{w0:World}{V:Nat->Prop}{g:World}{s:Sy}{i l:Nat}{W:World}(y:BT w0 V g s i l W)(I:i<=100)(e:Int×Int×Int×Tc)(A:I2 (e.2.1,e.2.2.1)){m:Nat}(x:Tm (m+1))(E:In g.heap.size g (m+1) x/\bZ V (m+1) x)(z:(aw (m+1) x).length<=2097152)(C:ax (m+1) x 13 e.2.2.2=true\/e.1≠3):am 8 #[aF l,.agg #[ab e.1,ab e.2.1,ab e.2.2.1,ab x.1.1,ab x.1.2.1,af x.1.2.2,ae x.2.1.1 x.2.2.length x.2.1.2]] W λr w'=>r=.returned (ab (Ia s e).2)/\Hid (BT w0 V g (Ia s e).1 (i+1) l w'):=by
 obtain⟨F,G,rfl,d,⟨o,p⟩,J,j,f,k⟩:=y;have q:=eP k (D:=V) (λb a n=>n a) E;have B:=MI p d.pg.2.2.2.1 d.sound ⟨d.keys.2.2.2.1,d.keys.2.2.2.2.1⟩ e C;refine(d.do A x ⟨q.1,q.2.mono λc a=>?_⟩ z (by omega) (by omega) (by omega) (by omega)).mono ?_
 ·have:=(f c a).2;omega
 ·rintro r w' ⟨O,rfl,v⟩;obtain⟨t,w,u,h⟩:=v.out;rw[o,B]at t u;have H:=k.size;refine⟨by rw[t],F,w,rfl,u,⟨o,p⟩,?_,⟨j.1.trans (qZ d h j.2),j.2⟩,λc a=>⟨(f c a).1,?_⟩,k.trans h.1 λc _ a n=>?_⟩
  ·obtain⟨_,_,K,L,M,N⟩:=h;omega
  ·rw[h.2.1 c (by have:=(f c a).1;omega)];exact(f c a).2
  ·exact a (f c n).2
def wt:(n:Nat)->Tm n->Nat
 | 0,_=>1
 | n+1,x=>1+x.1.2.2.size+(x.2.2.map λy=>wt n y).sum
theorem qI:(n:Nat)->(x:Tm n)->(aw n x).length<=wt n x
 | 0,_=>by simp[aw,wt]
 | n+1,x=>by
  have key:∀l:List (Tm n),(l.flatMap λy=>aw n y).length<=(l.map λy=>wt n y).sum:=by
   intro l
   induction l with
   | nil=>simp
   | cons y l ih=>
    have:=qI n y;simp only[bB,bj,aK,bv];omega
  have:=key x.2.2;simp only[aw,wt,aZ];omega
theorem own:ownKnob Tryz.prog.godebug=none:=by kernel_rfl
theorem yf:laidOutB Tryz.prog=true:=by kernel_rfl
theorem jT:Tryz.prog.cellsOf 30=4:=by kernel_rfl
theorem tN:Tryz.prog.cellsOf 3=1:=by kernel_rfl
theorem kU:Tryz.prog.cellsOf 9=1:=by kernel_rfl
theorem Ca:Tryz.prog.cellsOf 28=1:=by kernel_rfl
theorem yj{f:Type}{P:Nat->f->Prop}:(len:Nat)->(∀i,i<len->∃y,P i y)->∃l:List f,l.length=len/\∀i y,l[i]?=some y->P i y
 | 0,_=>⟨[],rfl,λi y b=>by simp at b⟩
 | len+1,b=>by
  obtain⟨l,j,k⟩:=yj len (λi d=>b i (by omega));obtain⟨e,m⟩:=b len (by omega);refine⟨l++ [e],by simp[j],λi y a=>?_⟩;by_cases d:i<l.length
  ·rw[dk d]at a;exact k i y a
  ·rw[ei (by omega)]at a;have c:i-l.length=0:=by
    by_cases c:i-l.length=0
    ·exact c
    ·rw[ek (by simp;omega)]at a;cases a
   rw[c]at a;have g:e=y:=by simpa using a
   have h:i=len:=by omega
   rw[h,<-g];exact m
theorem Me{H:Type}{n:Nat}:(p:List (Tm n))->(es:List (DataW H))->(∀(i:Nat)(y:Tm n)(e:DataW H),p[i]?=some y->es[i]?=some e->wt n y<=Rows.uptoBulk e)->p.length=es.length->(p.map λy=>wt n y).sum<=Rows.uptoBulkAll es
 | [],es,_,h=>by simp
 | y::p,[],_,h=>by simp at h
 | y::p,e::es,hp,h=>by
  have f:=hp 0 y e (by simp) (by simp);have g:=Me p es (λi d a c b=>hp (i+1) d a (by simpa using c) (by simpa using b)) (by simpa using h);simp only[aK,bv,Rows.uptoBulkAll];omega
theorem DO(b o i j:Nat):((⟨b,o,none⟩:Addr).add i).add j=⟨b,o+i+j,none⟩:=by
 unfold Addr.add;split<;>split<;>simp_all
theorem wZ{w:World}{a:Addr}{v:Value}(c:w.cell? ((a.add 0).add 0)=some v):a=⟨a.block,a.off,none⟩:=by
 have d:(a.add 0).add 0=a:=rfl;rw[d]at c;unfold World.cell? at c;split at c
 ·split at c
  ·cases c
  ·rename_i e;cases a with
   | mk b o f=>cases f with
    | none=>rfl
    | some g=>simp at e
 ·cases c
theorem zg{k:Int}(a:(Lit.int .i64 k).wf=true):dn k:=by
 have: -9223372036854775808<=k/\k<=9223372036854775807:=by simpa [Lit.wf,IntKind.min,IntKind.max,IntKind.signed,IntKind.bits]using a
 exact this
theorem LF{H:Type}(enc:TypeId×Value->H)(w:World)(p:Nat->Bool):(n f:Nat)->f<=2*n+1->(cs:List Value)->(x:DataW H×List MemPlace)-> DataW.trod enc Tryz.prog w 0 p true f 30 cs=some x-> ∃t:Tm (n+1),cs=[ab t.1.1,ab t.1.2.1,af t.1.2.2,ae t.2.1.1 t.2.2.length t.2.1.2]/\In w.heap.size w (n+1) t/\wt (n+1) t<=Rows.uptoBulk x.1:=by
 intro n
 induction n with
 | zero=>
  intro f aq cs x l;obtain⟨h,m,rfl,rfl,I,K,q⟩:=iM Tryz.underlying30 l;have u:DataW.trod enc Tryz.prog w 0 p true m 3 ((cs.drop 0).take (Tryz.prog.cellsOf 3))=h[0]? :=q 0 _ rfl;obtain rfl:m=0:=by omega
  have aJ:h.length=4:=K;rw[aH (by omega)]at u;cases u
 | succ n ih=>
  intro f aq cs x l;obtain⟨h,m,rfl,rfl,I,K,q⟩:=iM Tryz.underlying30 l;have u:DataW.trod enc Tryz.prog w 0 p true m 3 ((cs.drop 0).take (Tryz.prog.cellsOf 3))=h[0]? :=q 0 _ rfl;have R:DataW.trod enc Tryz.prog w 0 p true m 3 ((cs.drop 1).take (Tryz.prog.cellsOf 3))=h[1]? :=q 1 _ rfl;have S:DataW.trod enc Tryz.prog w 0 p true m 9 ((cs.drop 2).take (Tryz.prog.cellsOf 9))=h[2]? :=q 2 _ rfl;have T:DataW.trod enc Tryz.prog w 0 p true m 28 ((cs.drop 3).take (Tryz.prog.cellsOf 28))=h[3]? :=q 3 _ rfl;rw[tN]at u R;rw[kU]at S;rw[Ca]at T;rw[jT]at I;obtain⟨d,i,j,e,rfl⟩:∃d i j e,cs=[d,i,j,e]:=by
   match cs,I with
   | [d,i,j,e],_=>exact⟨d,i,j,e,rfl⟩
  obtain⟨y0,y1,y2,y,rfl⟩:∃y0 y1 y2 y,h=[y0,y1,y2,y]:=by
   match h,K with
   | [y0,y1,y2,y],_=>exact⟨y0,y1,y2,y,rfl⟩
  obtain⟨k,O,ay,Y⟩:=iL Tryz.underlying3 (x:=y0) (by simpa using u);obtain⟨X,P,az,Z⟩:=iL Tryz.underlying3 (x:=y1) (by simpa using R);obtain⟨r,Q,aA,aa⟩:=oG Tryz.underlying9 (x:=y2) (by simpa using S);have aj:DataW.trod enc Tryz.prog w 0 p true m 28 [e]=some y:=by simpa using T
  simp at O P Q;subst O P Q ay az aA;rcases DataW.trod_slice Tryz.underlying28 aj with⟨s,rfl⟩|⟨a,len,cap,D,aM,ax,rfl,s,rfl,_,aD,an,aC,E,_,_⟩
  ·simp at s;subst s;refine⟨((k,X,r),(none,0),[]),rfl,⟨⟨zg Y,zg Z,aa,ak _,aE _⟩,ah rfl⟩,?_⟩;have es:r.data.toList.length=r.size:=by rw[ia];rfl
   simp only[wt,Rows.uptoBulk,Rows.uptoBulkAll,aK,bX,jo];omega
  ·simp at s;subst s;simp only[jT]at E;have key:∀c,c<len->∃t:Tm (n+1),(∃b o,a=⟨b,o,none⟩/\b<w.heap.size/\dE w b (o+c*4) (n+1) t)/\In w.heap.size w (n+1) t/\∀g,(D.map (·.1))[c]?=some g->wt (n+1) t<=Rows.uptoBulk g:=by
    intro c au;have V:=E c au;have W:=E 0 (by omega);rw[aH (by omega)]at V W;obtain⟨ad,ao,aw⟩:=br.1 V;obtain⟨ag,ap,aI⟩:=br.1 W;obtain⟨_,aF,z⟩:=oQ ao;obtain⟨_,aG,am⟩:=oQ ap;obtain⟨t,rfl,G,F⟩:=ih ax (by omega) ad _ aw;have U:=wZ (w:=w) (a:=a) (v:=ag[0]'(by omega)) (by have:=am 0 (by omega);rw[aH (by omega)]at this;simpa using this);have al:∀C,(a.add (c*4)).add C=⟨a.block,a.off+c*4+C,none⟩:=λC=>by
     have:=DO a.block a.off (c*4) C;rw[<-U]at this;exact this
    have d:=z 0 (by omega);have i:=z 1 (by omega);have j:=z 2 (by omega);have e:=z 3 (by omega);rw[al]at d i j e;simp at d i j e;refine⟨t,⟨a.block,a.off,U,jt w ⟨a.block,a.off+c*4,none⟩ d,d,i,j,e⟩,G,λg A=>?_⟩;rw[dr,aH (by omega)]at A;have:(D[c]).1=g:=by simpa using A
    rw[<-this];exact F
   obtain⟨M,B,J⟩:=yj len key;refine⟨((k,X,r),(some a,cap),M),by simp[B],⟨⟨zg Y,zg Z,aa,by simp only;omega,an⟩,?_⟩,?_⟩
   ·rcases Nat.eq_zero_or_pos len with l|l
    ·exact ah (bH (B.trans l))
    ·obtain⟨⟨b,o,rfl,F,_⟩,_,_⟩:=J 0 (M[0]'(by rw[B];exact l)) (aH (by rw[B];exact l));refine ai ⟨b,o,rfl,F,λc N L=>?_⟩;obtain⟨⟨aB,aL,g,_,ar⟩,G,_⟩:=J c N L;simp at g;obtain⟨rfl,rfl⟩:=g;exact⟨ar,G⟩
   ·have av:=Me M (D.map (·.1)) (λc N g L A=>(J c N L).2.2 g A) (by simp;omega);have es:r.data.toList.length=r.size:=by rw[ia];rfl
    simp only[wt,Rows.uptoBulk,Rows.uptoBulkAll,aK,bX]at av ⊢;omega
end Go.Proofs.YtckamaoibonjcaaGreat
