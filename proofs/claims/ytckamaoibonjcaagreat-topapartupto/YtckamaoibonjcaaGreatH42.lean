/- What is proved here: plain facts and contracts that the claimed theorem stands on. No condition but those that each names. -/
import Derived.Test.YtckamaoibonjcaaGreatH41
import Derived.BigRegion
import Derived.ProofKit
import Derived.OpenShut
import Derived.JoinedCond
namespace Go.Proofs.YtckamaoibonjcaaGreat
open Go.RowKit
open Go.ChangeShapes Go.WideShapes Go.ChangeAt Go.RowKit
set_option maxHeartbeats 2000000
set_option maxRecDepth 100000
theorem IQ{x:ByteArray}(a:x.toList=[]):fo x=false:=by
 rw[b8]at a;have b:x.size=0:=by
  have:x.data.toList.length=x.size:=by simp
  rw[a]at this;exact this.symm
 simp[fo,b8,eE,a,b]
theorem lg.undrew{n r:Nat}{s:ByteArray}{a:List fq}{w w1:World}{m:Nat}{v:Value}{ok:Bool}(b:lg n s r a (w.drewN m) w1 v ok):lg n s r a w w1 v ok:=by
 obtain⟨c,d⟩:=b;exact⟨bP (eu w m _) c,d⟩
theorem IR{n r:Nat}{s:ByteArray}{b e:Nat}{d:List fq}{w w1 w2:World}{x:ByteArray}(a:At s b e d)(h:s.extract b e=x)(z:s.size<=2048)(i:BQ x=false){k f:Int}{t:ByteArray}(c:fo x=true)(u:(k,f,t)=kD x)(A:t.size<=x.size)(p:dk k)(q:dk f){o:Obj}(m:ai w w1)(v:Rd r s (dv s e) (dY s e) w2)(g:(w1.alloc o).grownBy w2 (some r)):lg (n+1) s r d w w2 (.agg #[ab k,ab f,ae t,.slice none 0 0]) true:=by
 have B:x.size<=2048:=by rw[<-h];simp;have:=a.2.1;omega
 refine⟨bP (fz (nD (gh w _) m) o) g,dv s e,dY s e,jr s e,v,At.next a.2.1,λ_=>?_,by simp⟩;cases d with
 | nil=>
  have:=a.nil;rw[h]at this;rw[IQ this]at c;exact absurd c (by simp)
 | cons C d=>
  obtain⟨j,l,_⟩:=a.cons;subst j l;rw[h];refine⟨⟨((k,f,t),(none,0),[]),rfl,⟨_,_,rfl,ag ⟨i,c,u,rfl,rfl⟩⟩,⟨⟨p,q,by unfold maxLen;simp only;omega,aF _,aF _⟩,ag rfl⟩,ag rfl⟩,λy=>?_⟩;simp only[BP,i,c];simp
theorem K9{n r:Nat}{s:ByteArray}{b e:Nat}{a:List fq}{w w1:World}{x:ByteArray}(d:At s b e a)(k:s.extract b e=x)(j:BQ x=false)(i:fo x=false)(c:Rd r s b e w)(f:ai w w1)(v:Value):lg (n+1) s r a w w1 v false:=by
 refine⟨nD (gh w _) f,b,e,a,c.block (f.block r c.lt),d,by simp,λ_ l=>?_⟩;cases a with
 | nil=>rfl
 | cons m a=>
  obtain⟨g,h,_⟩:=d.cons;subst g h;simp only[BP,k,j,i];simp[Ji]
theorem EP{w w1:World}{m:Nat}(a:Below (w.drewN m).heap.size (w.drewN m) w1):ai w w1:=⟨a.os,a.tape,a.output,a.size,a.block⟩
theorem tM{w w2:World}{r:Nat}{v0 v1 v2 v3:Value}(a:r<w.heap.size)(g:(w.alloc (.cells #[v0,v1,v2,v3] 30)).grownBy w2 (some r)):Bx w.heap.size v0 v1 v2 v3 w2:=
 (Bx.new w v0 v1 v2 v3).block (g.block _ (by simp) (by simp;omega))
theorem xd(n:Nat)(r:Nat)(s:ByteArray)(b e:Nat)(p:List fq)(w:World)(l:Rd r s b e w)(D:At s b e p)(E:s.size<=2048)(ih:∀w':World,Rd r s b e w'->BQ (s.extract b e)=true->ak 94 #[.pointer (some ⟨r,0,none⟩)] w' λd W=>Kn (n+1) s r p w' W d):ak 62 #[.pointer (some ⟨r,0,none⟩)] w λd w'=>Kn (n+1) s r p w w' d:=by
 have h:=l.lt;have a:=ao (⟨l,D⟩:_/\_);have O:=ao ih;clear l D ih;obtain⟨c,m⟩:∃c,s.extract b e=c:=⟨_,rfl⟩;have g:=ao m;have V:c.size<=2048:=by rw[<-m];simp;have:=a.out.2.2.1;omega
 clear m;cases hc:(c.toList==[40])
 ·have ad:(c.toList=[40])=False:=by simpa using hc
  have af:(c.toList !=[40])=true:=by simpa using hc
  go_enter Tryz.func62,Tryz.ntmps62
  go_wp2_with (first
   | (go_at_call 63;refine(oz r s b e c _ (a.out.1.alloc _) a.out.2.1 a.out.2.2.1 g.out).mono ?_;rintro d L ⟨rfl,o,rfl⟩)
   | (go_at_call 63;refine(oz r s b e c _ ((a.out.1.alloc _).drew o) a.out.2.1 a.out.2.2.1 g.out).mono ?_;rintro d L ⟨rfl,al,rfl⟩)
   | (go_at_call 95;refine(Ge c _ V).mono ?_;rintro d q ⟨⟨k,f,t,ok,rfl,A⟩,HB⟩;replace HB:=EP HB;obtain⟨⟨u,x,y,z⟩,P,Q,R,S⟩:=xB HB;have T:w.heap.size<q.heap.size:=(by have:=HB.size;simp at this;omega);have U:r<q.heap.size:=(by omega);replace HB:=ao HB;cases ok)
   | (go_at_call 61;refine(qD r s b e _ ((((a.out.1.alloc _).block (HB.out.block r (by simp;omega)))).alloc _) a.out.2.2.1 E).mono ?_;rintro d au ⟨rfl,i⟩;have N:=ao (bP (fz (nD (gh _ _) HB.out) _) i.out.2);obtain⟨⟨X,Y,Z,aa⟩,am,an,ap,aq⟩:=(tM h N.out).cells;obtain⟨⟨y0,y1,y2,av⟩,ag,ah,ai,aj⟩:=(tM U i.out.2).cells;obtain⟨G,H,I,J,K⟩:=A.out;have M:=ao (lg.box h (IR (n:=n) a.out.2 g.out E hc G.symm (H (by trivial)) I J K HB.out i.out.1 i.out.2));clear G H I J K))
  ·exact ar (v:=.tuple #[.agg #[ab k,ab f,ae t,.slice none 0 0],.bool false]) (by simp[results,Tryz.results62,go_sem,u,x,y,z,T]) rfl ⟨k,f,t,none,0,0,false,rfl,(lg.box h (K9 a.out.2 g.out hc A.out.1.symm (a.out.1.alloc _) HB.out _) _ _ _ _).alloc _⟩
  ·exact ar (v:=.tuple #[.agg #[ab k,ab f,ae t,.slice none 0 0],.bool true]) (by simp[results,Tryz.results62,go_sem,X,Y,Z,aa]) rfl ⟨k,f,t,none,0,0,true,rfl,M.out _ _ _ _⟩
 ·go_enter Tryz.func62,Tryz.ntmps62
  go_wp2_with (first
   | (go_at_call 63;refine(oz r s b e c _ (a.out.1.alloc _) a.out.2.1 a.out.2.2.1 g.out).mono ?_;rintro d L ⟨rfl,o,rfl⟩)
   | (go_at_call 94;refine(O.out _ ((a.out.1.alloc _).drew o) (by rw[g.out];exact hc)).mono ?_;rintro d q ⟨k,f,t,B,F,C,ok,rfl,j⟩;replace j:=ao j.out.undrew;obtain⟨⟨u,x,y,z⟩,P,Q,R,S⟩:=(tM h j.out.1).cells))
  exact ar (v:=.tuple #[.agg #[ab k,ab f,ae t,.slice B F C],.bool ok]) (by simp[results,Tryz.results62,go_sem,u,x,y,z]) rfl ⟨k,f,t,B,F,C,ok,rfl,lg.box h j.out _ _ _ _⟩
theorem Gg(n:Nat):L0 n:=by
 induction n with
 | zero=>
  intro g h b d c k j a f l;refine xd 0 g h b d c k j a f λm _ e=>?_;have i:c=[]:=bB (by omega);subst i;simp[BQ,a.nil]at e
 | succ n ih=>
  intro g h b d c k j a f l;refine xd (n+1) g h b d c k j a f λm o e=>?_;cases c with
  | nil=>simp[BQ,a.nil]at e
  | cons t c=>
   have i:=a.cons.1;refine Dy n ih g h b d t c m o a f (by simp at l;omega) ?_;rw[i];exact e
def nQ:Value:=.agg #[ab 0,ab 0,ae ⟨#[]⟩,.slice none 0 0]
def Oj(s:ByteArray)(w w':World)(v:Value)(pos b:Int):Prop:=
 (2048<s.size/\v=nQ/\pos=0/\b=2)\/(∃c:Nat,s.size<=2048/\BP s.size (jr s 0) 0=some c/\v=nQ/\pos=c/\b=3)\/
  (s.size<=2048/\BP s.size (jr s 0) 0=none/\∃(n:Nat)(a:Tm n),Is n a (jr s 0) []/\In w'.heap.size w' n a/\bZ (λd=>w.heap.size<=d) n a/\pos=0/\b=bq n a/\((bq n a≠0/\v=nQ)\/(bq n a=0/\v=df n a)))
def Oi(s:ByteArray)(w w':World)(e:Ending):Prop:=
 ∃(k d:Int)(t:ByteArray)(a:Option Addr)(l c:Nat)(pos b:Int),e=.returned (.tuple #[.agg #[ab k,ab d,ae t,.slice a l c],ab pos,ab b])/\
  Hid (Oj s w w' (.agg #[ab k,ab d,ae t,.slice a l c]) pos b/\ai w w')
theorem uV{w:World}{q b:Nat}(a:b≠q)(v0 v1 v2 v3:Value):((((w.setCell ⟨q,0,none⟩ v0).setCell ⟨q,1,none⟩ v1).setCell ⟨q,2,none⟩ v2).setCell ⟨q,3,none⟩ v3).heap[b]?=w.heap[b]? :=by
 rw[eJ _ _ _ _ (by simpa using a),eJ _ _ _ _ (by simpa using a),eJ _ _ _ _ (by simpa using a),eJ _ _ _ _ (by simpa using a)]
theorem wS{w:World}{q:Nat}(v0 v1 v2 v3:Value):((((w.setCell ⟨q,0,none⟩ v0).setCell ⟨q,1,none⟩ v1).setCell ⟨q,2,none⟩ v2).setCell ⟨q,3,none⟩ v3).heap.size=w.heap.size:=by simp[World.setCell]
theorem F6{s:ByteArray}{w w2 a:World}(g:((w.alloc (.cells #[ab 0,ab 0,ae ⟨#[]⟩,.slice none 0 0] 30)).alloc (.cells #[ae s,ab 0,ab 0] 133)).grownBy w2 (some (w.heap.size+1)))(b:w2.grownBy a (some (w.heap.size+1))):Bx w.heap.size (ab 0) (ab 0) (ae ⟨#[]⟩) (.slice none 0 0) a/\w.heap.size+1<a.heap.size/\ai w a/\w.heap.size+2<=w2.heap.size:=by
 have c:=bP g b;have e:=g.size;have h:=b.size;simp at e;refine⟨((Bx.new w _ _ _ _).block (fw _ _ (by simp))).block (c.block _ (by simp;omega) (by simp)),by omega,?_,by omega⟩;exact(((am _ _).alloc (aj _) _).alloc (by simp) _).grown c (by simp;omega) (λf d=>by simp at d;omega)
theorem In.drewN{B:Nat}{w:World}{n:Nat}{x:Tm n}(m:Nat){P:Nat->Prop}(k:bZ P n x)(a:In B w n x):In B (w.drewN m) n x:=In.off (w:=w) (w':=w.drewN m) (λ_ _=>rfl) k a
theorem Jd{s:ByteArray}{w w2 c:World}{v:Value}{b e:Nat}{a:List fq}{x:ByteArray}(A:s.extract b e=x)(z:(x.toList==[])=true)(D:s.size<=2048)(r:At s b e a)(E:w.heap.size+2<=w2.heap.size)(l:(∃x:Tm 2049,df 2049 x=v/\Is 2049 x (jr s 0) a/\In c.heap.size c 2049 x/\bZ (λq=>w2.heap.size<=q) 2049 x)/\∀d,BP s.size (jr s 0) d=jx s.size a d)(o:Obj)(m:Nat):∃y:Tm 2049,v=df 2049 y/\Is 2049 y (jr s 0) []/\In ((c.alloc o).drewN m).heap.size ((c.alloc o).drewN m) 2049 y/\bZ (λq=>w.heap.size+2<=q) 2049 y/\(av 2049 y).length<=2097152/\BP s.size (jr s 0) 0=none:=by
 obtain⟨⟨y,n,h,i,f⟩,p⟩:=l;have j:a=[]:=by
  cases a with
  | nil=>rfl
  | cons t a=>
   have k:=r.cons.2.2;rw[A]at k;have g:x.toList=[]:=by simpa using z
   rw[b8]at g;have:x.data.toList.length=x.size:=by simp
   rw[g]at this;simp at this;omega
 subst j;have B:=tj 2049 y (jr s 0) [] h;have g:=kZ s s.size 0 (by omega);refine⟨y,n.symm,h,In.drewN m f ((In.off (λb u=>fw c o u.2) (In.offB f i) i).mono (by simp)),f.mono λq C=>by omega,by simp at B;omega,p 0⟩
theorem Jb{w a c:World}{m:Nat}{v0 v1 v2 v3:Value}(d:Bx w.heap.size (ab 0) (ab 0) (ae ⟨#[]⟩) (.slice none 0 0) a)(b:Below ((a.alloc (.cells #[v0,v1,v2,v3] 30)).drewN m).heap.size ((a.alloc (.cells #[v0,v1,v2,v3] 30)).drewN m) c):Bx w.heap.size (ab 0) (ab 0) (ae ⟨#[]⟩) (.slice none 0 0) c/\Bx a.heap.size v0 v1 v2 v3 c:=by
 have e:=d.lt;exact⟨(d.block (fw _ _ e)).block (b.block _ (by simp;omega)),(Bx.new a v0 v1 v2 v3).block (b.block _ (by simp))⟩
theorem Jc{s:ByteArray}{b e:Nat}{a:List fq}{x:ByteArray}(g:s.extract b e=x)(d:(x.toList==[])=false)(c:At s b e a)(f:BP s.size (jr s 0) 0=jx s.size a 0):BP s.size (jr s 0) 0=some b:=by
 rw[f,<-c.pos];cases a with
 | nil=>rw[<-g]at d;simp[c.nil]at d
 | cons t a=>rfl
theorem Ja{w w4 a:World}{n:Nat}{y:Tm n}(c:In w4.heap.size w4 n y)(k:bZ (λq=>w.heap.size+2<=q) n y)(b:ai w4 a)(v0 v1 v2 v3:Value):In ((((a.setCell ⟨w.heap.size,0,none⟩ v0).setCell ⟨w.heap.size,1,none⟩ v1).setCell ⟨w.heap.size,2,none⟩ v2).setCell ⟨w.heap.size,3,none⟩ v3).heap.size ((((a.setCell ⟨w.heap.size,0,none⟩ v0).setCell ⟨w.heap.size,1,none⟩ v1).setCell ⟨w.heap.size,2,none⟩ v2).setCell ⟨w.heap.size,3,none⟩ v3) n y:=by
 rw[wS];exact In.off (λq d=>uV (by omega) _ _ _ _) k ((c.below b).mono b.size)
theorem pu{w w1:World}(a:ai w w1)(v0 v1 v2 v3:Value):ai w ((((w1.setCell ⟨w.heap.size,0,none⟩ v0).setCell ⟨w.heap.size,1,none⟩ v1).setCell ⟨w.heap.size,2,none⟩ v2).setCell ⟨w.heap.size,3,none⟩ v3):=
 ⟨a.os,a.tape,a.output,by rw[wS];exact a.size,λk b=>(uV (by omega) _ _ _ _).trans (a.block k b)⟩
theorem kt{B:Nat}{w w1:World}(a:Below B w w1)(m:Nat):Below B w (w1.drewN m):=⟨a.os,a.tape,a.output,a.size,a.block⟩
theorem lB{w w1:World}(a:ai w w1)(o:Obj):ai w (w1.alloc o):=a.alloc a.size o
theorem F7(s:ByteArray)(w:World)(S:s.size<=maxLen):ak 36 #[ae s] w λe w'=>Oi s w w' e:=by
 unfold maxLen at S;by_cases D:2048<s.size
 ·have Q:(2048:Int)<s.size:=by omega
  go_enter Tryz.func36,Tryz.ntmps36;go_wp2_with fail;exact ar (v:=.tuple #[nQ,ab 0,ab 2]) (by simp[results,Tryz.results36,go_sem,nQ]) rfl ⟨0,0,⟨#[]⟩,none,0,0,0,2,rfl,ag ⟨D,rfl,rfl,rfl⟩,by go_grown⟩
 ·have Q:(s.size:Int)<=2048:=by omega
  have i:s.size<=2048:=by omega
  clear D;have P:Hid (Rd (w.heap.size+1) s 0 0 ((w.alloc (.cells #[ab 0,ab 0,ae ⟨#[]⟩,.slice none 0 0] 30)).alloc (.cells #[ae s,ab 0,ab 0] 133))):=by
   have:=az (w.alloc (.cells #[ab 0,ab 0,ae ⟨#[]⟩,.slice none 0 0] 30)) (.cells #[ae s,ab 0,ab 0] 133);simpa [Hid,Rd]using this
  go_enter Tryz.func36,Tryz.ntmps36
  go_wp2_with (first
   | (go_at_call 61;refine(qD (w.heap.size+1) s 0 0 _ P.out (aF _) i).mono ?_;rintro o U ⟨rfl,B⟩)
   | (go_at_call 62;refine(Gg 2048 (w.heap.size+1) s _ _ (jr s 0) U B.out.1 (At.next (aF _)) i (ax (kZ s s.size 0 (by omega)) (by omega))).mono ?_;rintro o V ⟨k,A,t,y,l,c,ok,rfl,C⟩;obtain⟨q,au,G,H⟩:=F6 B.out.2 C.out.1;obtain⟨⟨K,L,M,N⟩,ad,af,ai,al⟩:=q.cells;have E:w.heap.size<V.heap.size:=(by omega);obtain⟨_,d,o,aD,b⟩:=C.out;replace b:=ao b;obtain⟨⟨W,X,Y⟩,av,aw⟩:=b.out.1.cells;have HB:=ao (⟨G,H⟩:_/\_);replace q:=ao q;clear G H;obtain⟨r,F⟩:∃r,s.extract d o=r:=⟨_,rfl⟩;have x:=ao F;clear F;cases ok)
   | (go_at_call 63;refine(oz (w.heap.size+1) s d o r _ (b.out.1.alloc _) b.out.2.1.1 b.out.2.1.2.1 x.out).mono ?_;rintro Z aE ⟨rfl,m,rfl⟩;cases hc:(r.toList==[]))
   | (go_at_call 51;obtain⟨u,p,a⟩:=Jd x.out hc i b.out.2.1 HB.out.2 (b.out.2.2.1 (by trivial)) _ m;replace a:=ao a;refine(show Calls _ _ #[.agg #[ab k,ab A,ae t,.slice y l c]] _ _ from p▸dB 2049 u _ _ a.out.2.1 (aj _) a.out.2.2.2.1).mono ?_;rintro aa aG ⟨rfl,h⟩;obtain⟨I,J⟩:=Jb q.out h;obtain⟨⟨y0,y1,y2,O⟩,am,an,ap,aq⟩:=I.cells;obtain⟨⟨aH,aI,aJ,aK⟩,ay,aA,aB,aC⟩:=J.cells;have n:=ao h;clear I J h;replace p:=ao p;obtain⟨j,g⟩:∃j,bq 2049 u=j:=⟨_,rfl⟩;rw[g];replace g:=ao g;by_cases z:j=0))
  ·go_region;go_wp2_with fail;have f:=HB.out.1;exact ar (v:=.tuple #[nQ,ab d,ab 3]) (by simp[results,Tryz.results36,go_sem,nQ,E,K,L,M,N]) rfl ⟨0,0,⟨#[]⟩,none,0,0,d,3,rfl,ah (ag ⟨d,i,by rw[<-b.out.2.1.pos];exact b.out.2.2.2 (by trivial) 0,rfl,rfl,rfl⟩),by go_grown⟩
  ·go_region;go_wp2_with fail;have f:=HB.out.1;exact ar (v:=.tuple #[nQ,ab d,ab 3]) (by simp[results,Tryz.results36,go_sem,nQ,E,K,L,M,N]) rfl ⟨0,0,⟨#[]⟩,none,0,0,d,3,rfl,ah (ag ⟨d,i,Jc x.out hc b.out.2.1 ((b.out.2.2.1 (by trivial)).2 0),rfl,rfl,rfl⟩),pu (kt (lB f _) _) _ _ _ _⟩
  ·have f:=HB.out.1;have h:=n.out;exact ar (v:=.tuple #[.agg #[ab k,ab A,ae t,.slice y l c],ab 0,ab 0]) (by simp[results,Tryz.results36,go_sem,y0,y1,y2,O]) rfl ⟨k,A,t,y,l,c,0,0,rfl,ah (ah ⟨i,a.out.2.2.2.2,2049,u,a.out.1,Ja a.out.2.1 a.out.2.2.1 n.out _ _ _ _,a.out.2.2.1.mono (λT R=>by omega),rfl,(g.out.trans z).symm,ah ⟨g.out.trans z,p.out⟩⟩),pu ((kt (lB f _) m).trans (h.mono (kt (lB f _) m).size)) _ _ _ _⟩
  ·have f:=HB.out.1;have h:=n.out;exact ar (v:=.tuple #[nQ,ab 0,ab j]) (by simp[results,Tryz.results36,go_sem,nQ,y0,y1,y2,O]) rfl ⟨0,0,⟨#[]⟩,none,0,0,0,j,rfl,ah (ah ⟨i,a.out.2.2.2.2,2049,u,a.out.1,Ja a.out.2.1 a.out.2.2.1 n.out _ _ _ _,a.out.2.2.1.mono (λT R=>by omega),rfl,g.out.symm,ag ⟨by rw[g.out];exact z,rfl⟩⟩),pu ((kt (lB f _) m).trans (h.mono (kt (lB f _) m).size)) _ _ _ _⟩
def MU{a:Type}(f:a->List fq->Option (List fq)):List a->List fq->Option (List fq)
 | [],ts=>some ts
 | x::l,ts=>(f x ts).bind (MU f l)
def N6:(n:Nat)->Tm n->List fq->Option (List fq)
 | 0,_,_=>none
 | _+1,_,[]=>none
 | n+1,x,t::ts=>if BQ t.2=true then if x.1=(4,0,⟨#[]⟩)then (MU (N6 n) x.2.2 ts).bind λr=>match r with
    | []=>none
    | c::r=>if xX c.2=true then some r else none else none
  else if fo t.2=true/\x.1=kD t.2/\x.2.2.length=0 then some ts else none
theorem Ed{b:Type}{f:b->List fq->Option (List fq)}{g:b->List fq->List fq->Prop}(c:∀x a r,f x a=some r->g x a r):(l:List b)->∀{a r:List fq},MU f l a=some r->DG g l a r
 | [],a,r,e=>by
  have e:some a=some r:=e;exact au e
 | x::l,a,r,e=>by
  obtain⟨m,d,h⟩:=br.1 e;exact⟨m,c x a m d,Ed c l h⟩
theorem IG:(n:Nat)->(x:Tm n)->(e r:List fq)->N6 n x e=some r->Is n x e r
 | 0,_,_,_,h=>by cases h
 | _+1,_,[],_,h=>by cases h
 | n+1,x,t::e,r,h=>by
  unfold N6 at h;refine⟨t,e,rfl,?_⟩;by_cases d:BQ t.2=true
  ·rw[if_pos d]at h;by_cases g:x.1=(4,0,⟨#[]⟩)
   ·rw[if_pos g]at h;obtain⟨m,i,a⟩:=br.1 h;cases m with
    | nil=>cases a
    | cons c m=>
     simp only at a;by_cases f:xX c.2=true
     ·rw[if_pos f]at a;obtain rfl:=au a;exact ah ⟨d,g,c,Ed (IG n) x.2.2 i,f⟩
     ·rw[if_neg f]at a;cases a
   ·rw[if_neg g]at h;cases h
  ·rw[if_neg d]at h;by_cases b:fo t.2=true/\x.1=kD t.2/\x.2.2.length=0
   ·rw[if_pos b]at h;exact ag ⟨by simpa using d,b.1,b.2.1,bB b.2.2,(au h).symm⟩
   ·rw[if_neg b]at h;cases h
def nR(s:ByteArray)(n:Nat)(y:Tm n):Prop:=s.size<=2048/\BP s.size (jr s 0) 0=none/\N6 n y (jr s 0)=some []
theorem AR{s:ByteArray}{n:Nat}{y:Tm n}(i:nR s n y)(u:bq n y=0)(w:World):ak 36 #[ae s] w λe w'=>∃(m:Nat)(x:Tm (m+1)),e=.returned (.tuple #[.agg #[ab x.1.1,ab x.1.2.1,ae x.1.2.2,.slice x.2.1.1 x.2.2.length x.2.1.2],ab 0,ab 0])/\Hid (aw (m+1) x n y=true/\In w'.heap.size w' (m+1) x/\bZ (λq=>w.heap.size<=q) (m+1) x/\ai w w'):=by
 obtain⟨j,o,p⟩:=i;refine(F7 s w (ax j (by unfold maxLen;omega))).mono ?_;rintro e w' ⟨k,E,t,B,l,c,pos,C,rfl,h⟩;obtain⟨z,r⟩:=h.out;rcases z with⟨a,_⟩|⟨D,_,a,_⟩|⟨_,_,m,x,A,f,v,rfl,rfl,b⟩
 ·omega
 ·rw[o]at a;cases a
 ·have g:=(Is.one m n x y _ _ _ A (IG n y _ _ p)).1;have d:bq m x=0:=by
   rw[Gn m n x y g];exact u
  rcases b with⟨a,_⟩|⟨_,b⟩
  ·exact absurd d a
  ·cases m with
   | zero=>exact f.elim
   | succ m=>
    rw[d,b];exact⟨m,x,rfl,g,f,v,r⟩
def JS:ByteArray:=⟨#[40,99,111,100,101,32,40,98,101,104,32,99,111,117,110,116,32,40,111,110,32,36,48,32,40,117,112,32,36,49,41,32,40,41,32,40,97,100,100,32,36,48,32,36,49,41,41,32,40,111,110,32,36,48,32,40,97,115,107,32,36,49,41,32,40,40,115,101,110,100,32,36,49,32,40,104,97,118,101,32,36,48,41,41,41,32,36,48,41,32,40,111,110,32,95,32,102,111,114,107,32,40,40,115,112,97,119,110,32,99,111,117,110,116,32,48,32,36,48,41,32,40,108,105,110,107,32,36,48,41,32,40,115,101,110,100,32,36,48,32,40,117,112,32,55,41,41,41,32,49,41,32,40,111,110,32,95,32,115,116,111,112,32,40,40,115,116,111,112,41,41,32,48,41,32,40,111,110,32,95,32,98,97,100,32,40,41,32,40,97,100,100,32,97,32,97,41,41,41,41]⟩
def OA:ByteArray:=⟨#[40,117,112,32,51,41]⟩
def Nf:ByteArray:=⟨#[102,111,114,107]⟩
def NX:ByteArray:=⟨#[98,97,100]⟩
theorem LK:nR JS 7 (bW 1 eX):=⟨by decide,by kernel_rfl,by kernel_rfl⟩
theorem NY:nR OA 13 uE:=⟨by decide,by kernel_rfl,by kernel_rfl⟩
theorem LM:nR Nf 13 (aW sI 12):=⟨by decide,by kernel_rfl,by kernel_rfl⟩
theorem Ng:nR NX 13 (aW BB 12):=⟨by decide,by kernel_rfl,by kernel_rfl⟩
theorem nN:bq 7 (bW 1 eX)=0/\bq 13 uE=0/\bq 13 (aW sI 12)=0/\bq 13 (aW BB 12)=0:=⟨by kernel_rfl,by kernel_rfl,by kernel_rfl,by kernel_rfl⟩
theorem Dt(s:ByteArray)(r:s=⟨#[40,99,111,100,101,32,40,98,101,104,32,99,111,117,110,116,32,40,111,110,32,36,48,32,40,117,112,32,36,49,41,32,40,41,32,40,97,100,100,32,36,48,32,36,49,41,41,32,40,111,110,32,36,48,32,40,97,115,107,32,36,49,41,32,40,40,115,101,110,100,32,36,49,32,40,104,97,118,101,32,36,48,41,41,41,32,36,48,41,32,40,111,110,32,95,32,102,111,114,107,32,40,40,115,112,97,119,110,32,99,111,117,110,116,32,48,32,36,48,41,32,40,108,105,110,107,32,36,48,41,32,40,115,101,110,100,32,36,48,32,40,117,112,32,55,41,41,41,32,49,41,32,40,111,110,32,95,32,115,116,111,112,32,40,40,115,116,111,112,41,41,32,48,41,32,40,111,110,32,95,32,98,97,100,32,40,41,32,40,97,100,100,32,97,32,97,41,41,41,41]⟩)(w:World)(o:Int->Int->ByteArray->Option Addr->Nat->Nat->World->Prop)(i:Option Addr->Nat->Nat->World->Prop)(m:Hid (ak 36 #[ae s] w λe w'=>∃y0 y1 y2 ya yl yc,e=.returned (.tuple #[.agg #[ab y0,ab y1,ae y2,.slice ya yl yc],ab 0,ab 0])/\Hid (o y0 y1 y2 ya yl yc w')))(k:Hid (∀y0 y1 y2 ya yl yc W n,o y0 y1 y2 ya yl yc W->ai W n->ak 35 #[.agg #[ab y0,ab y1,ae y2,.slice ya yl yc]] n λe w'=>∃a l c,e=.returned (.tuple #[.slice a l c,ab 0])/\Hid (i a l c w'))):ak 18 #[] w λe w'=>∃a l c,e=.returned (.slice a l c)/\Hid (i a l c w'):=by
 subst r;go_enter Tryz.func18,Tryz.ntmps18;go_wp2_with fail;refine m.out.mono ?_;rintro e h ⟨y0,y1,y2,ya,yl,yc,rfl,j⟩;clear m;go_upto_region 2 with fail;generalize g:h.alloc _=b;have q:=ao (k.out _ _ _ _ _ _ _ b j.out (by rw[<-g];exact(am _ _).alloc (aj _) _));have d:b.heap[h.heap.size]?=some (.cells #[ab y0,ab y1,ae y2,.slice ya yl yc] 30):=by
  rw[<-g];exact az _ _
 generalize h.heap.size=f at*;have t:b.cell? ⟨f,0,none⟩=some (ab y0):=af d 0;have u:b.cell? ⟨f,1,none⟩=some (ab y1):=af d 1;have v:b.cell? ⟨f,2,none⟩=some (ae y2):=af d 2;have x:b.cell? ⟨f,3,none⟩=some (.slice ya yl yc):=af d 3;clear g d k j;go_wp2_with fail;refine q.out.mono ?_;rintro e y ⟨a,l,c,rfl,p⟩;go_wp2_with fail
 go_ret
 exact⟨a,l,c,rfl,p.out⟩
theorem GI(p:Int)(s:ByteArray)(w:World)(u:Int->Int->ByteArray->Option Addr->Nat->Nat->World->Prop)(C:Hid (∀W,ai w W->w.heap.size<W.heap.size->ak 36 #[ae s] W λe w'=>∃y0 y1 y2 ya yl yc,e=.returned (.tuple #[.agg #[ab y0,ab y1,ae y2,.slice ya yl yc],ab 0,ab 0])/\Hid (ai W w'/\∀j,bk (λq=>q=w.heap.size) w' j->u y0 y1 y2 ya yl yc j))):ak 21 #[ab p,ae s] w λe w'=>∃y0 y1 y2 ya yl yc,e=.returned (.agg #[ab 3,ab p,ab 0,ab y0,ab y1,ae y2,.slice ya yl yc])/\Hid (u y0 y1 y2 ya yl yc w'/\ai w w'):=by
 go_enter Tryz.func21,Tryz.ntmps21;go_upto_region 1 with fail;generalize A:w.alloc _=r;have n:ai w r:=by rw[<-A];exact(am _ _).alloc (aj _) _
 have y:r.heap[w.heap.size]?=some (.cells #[ab 0,ab 0,ab 0,ab 0,ab 0,ae .empty,.slice none 0 0] 32):=by
  rw[<-A];exact az _ _
 have z:=(aC.1 y).1;have D:=ao (C.out r n z);clear A C;go_wp2_with fail;refine D.out.mono ?_;rintro e g ⟨y0,y1,y2,ya,yl,yc,rfl,h⟩;clear D;go_upto_region 2 with fail;generalize B:g.alloc _=d;have i:ai g d:=by rw[<-B];exact(am _ _).alloc (aj _) _
 have l:d.heap[g.heap.size]?=some (.cells #[ab y0,ab y1,ae y2,.slice ya yl yc] 30):=by
  rw[<-B];exact az _ _
 have F:=h.out.1.size;have f:=(i.block w.heap.size (by omega)).trans ((h.out.1.block w.heap.size z).trans y);have T:w.heap.size≠g.heap.size:=by omega
 have HB:=ao (⟨n.trans ((h.out.1.trans (i.mono F)).mono n.size),h,aD i _⟩:ai w d/\Hid (ai r g/\∀j,bk (λq=>q=w.heap.size) g j->u y0 y1 y2 ya yl yc j)/\bk (λq=>q=w.heap.size) g d);generalize U:w.heap.size=a at*;generalize g.heap.size=q at*;have O:d.cell? ⟨q,0,none⟩=some (ab y0):=af l 0;have P:d.cell? ⟨q,1,none⟩=some (ab y1):=af l 1;have Q:d.cell? ⟨q,2,none⟩=some (ae y2):=af l 2;have R:d.cell? ⟨q,3,none⟩=some (.slice ya yl yc):=af l 3;have G:d.cell? ⟨a,0,none⟩=some (ab 0):=af f 0;have d1:d.cell? ⟨a,1,none⟩=some (ab 0):=af f 1;have H:d.cell? ⟨a,2,none⟩=some (ab 0):=af f 2;have I:d.cell? ⟨a,3,none⟩=some (ab 0):=af f 3;have J:d.cell? ⟨a,4,none⟩=some (ab 0):=af f 4;have K:d.cell? ⟨a,5,none⟩=some (ae .empty):=af f 5;have L:d.cell? ⟨a,6,none⟩=some (.slice none 0 0):=af f 6;have S:∀k,d.frozen? ⟨a,k,none⟩=false:=λk=>by simp[World.frozen?,f]
 clear B i l f h y z F n;go_wp2_with fail;obtain⟨o,h,i⟩:=HB.out;have x:bk (λb=>b=a) d (((((((d.setCell ⟨a,0,none⟩ (ab 3)).setCell ⟨a,1,none⟩ (ab p)).setCell ⟨a,2,none⟩ (ab 0)).setCell ⟨a,3,none⟩ (ab y0)).setCell ⟨a,4,none⟩ (ab y1)).setCell ⟨a,5,none⟩ (ae y2)).setCell ⟨a,6,none⟩ (.slice ya yl yc)):=by
  have t:∀{E b c:World},bk (λq=>q=a) E b->bk (λq=>q=a) b c->bk (λq=>q=a) E c:=λM k=>M.trans k λ_ _ m=>m;exact t (t (t (t (t (t (bt _ _ _ _) (bt _ _ _ _)) (bt _ _ _ _)) (bt _ _ _ _)) (bt _ _ _ _)) (bt _ _ _ _)) (bt _ _ _ _)
 refine ar (v:=.agg #[ab 3,ab p,ab 0,ab y0,ab y1,ae y2,.slice ya yl yc]) (by simp[results,Tryz.results21,go_sem,G,d1,H,I,J,K,L]) rfl ⟨y0,y1,y2,ya,yl,yc,rfl,h.out.2 _ (i.trans x λ_ _ m=>m),?_⟩
 first|exact(o.trans (x.below (by have:=o.size;omega) λb N m=>by omega)).mono (by omega)|exact o.trans (x.below (by have:=o.size;omega) λb N m=>by omega)
theorem GH(x:Nat)(g n c:Nat)(kd f h i k:Nat->Int)(l:Nat->ByteArray)(xa:Nat->Option Addr)(m xc:Nat->Nat)(w:World)(K:Nat->World->Prop)(P:n<=1000)(s:Hid (K 0 w))(o:Hid (∀j W,j<n->K j W->(W.cell? ⟨g,j*7,none⟩=some (ab (kd j))/\W.cell? ⟨g,j*7+1,none⟩=some (ab (f j))/\W.cell? ⟨g,j*7+2,none⟩=some (ab (h j))/\W.cell? ⟨g,j*7+3,none⟩=some (ab (i j))/\W.cell? ⟨g,j*7+4,none⟩=some (ab (k j))/\W.cell? ⟨g,j*7+5,none⟩=some (ae (l j))/\W.cell? ⟨g,j*7+6,none⟩=some (.slice (xa j) (m j) (xc j)))/\Hid (∀u,ai W u->ak 8 #[.pointer (some ⟨x,0,none⟩),.agg #[ab (kd j),ab (f j),ab (h j),ab (i j),ab (k j),ae (l j),.slice (xa j) (m j) (xc j)]] u λe w'=>e=.returned (ab 0)/\Hid (K (j+1) w')))):ak 20 #[.pointer (some ⟨x,0,none⟩),.slice (some ⟨g,0,none⟩) n c] w λe w'=>e=.returned (.bool true)/\Hid (K n w'):=by
 go_enter Tryz.func20,Tryz.ntmps20;go_wp2_with fail;go_loopw [6,9] (λ_ r wr=>∃(j:Nat),j<=n/\r=ab j/\Hid (K j wr)) (λ_ r _=>n-(intOf r).toNat)
 case atStart=>exact⟨0,aF _,rfl,s.out⟩
 case round=>
 clear s;obtain⟨j,H,rfl,p⟩:=hrel;by_cases v:j<n
 ·obtain⟨⟨A,B,C,D,E,F,G⟩,t⟩:=o.out j _ v p.out;have Q:(0:Int)<=(j:Int):=by omega
  have R:(j:Int)<(n:Int):=by omega
  clear o p;go_upto_region 4 with fail;generalize q:World.alloc _ _=a;have b:a.heap[wr.heap.size]?=some (.cells #[ab (kd j),ab (f j),ab (h j),ab (i j),ab (k j),ae (l j),.slice (xa j) (m j) (xc j)] 32):=by
   rw[<-q];exact az _ _
  have z:=ao (t.out a (by rw[<-q];exact(am _ _).alloc (aj _) _));generalize wr.heap.size=d at*;have I:a.cell? ⟨d,0,none⟩=some (ab (kd j)):=af b 0;have d1:a.cell? ⟨d,1,none⟩=some (ab (f j)):=af b 1;have J:a.cell? ⟨d,2,none⟩=some (ab (h j)):=af b 2;have L:a.cell? ⟨d,3,none⟩=some (ab (i j)):=af b 3;have M:a.cell? ⟨d,4,none⟩=some (ab (k j)):=af b 4;have N:a.cell? ⟨d,5,none⟩=some (ae (l j)):=af b 5;have O:a.cell? ⟨d,6,none⟩=some (.slice (xa j) (m j) (xc j)):=af b 6;clear q b t A B C D E F G;go_wp2_with fail;refine z.out.mono ?_;rintro e S ⟨rfl,y⟩;go_wp2_with fail;go_roundw
  case rel=>exact⟨j+1,by omega,by go_num,y.out⟩
  case measure=>simp[intOf];omega
 obtain rfl:j=n:=by omega
 clear o H v;go_wp2_with fail
 go_ret
 exact⟨rfl,p.out⟩
def xt(w:World)(a:Option Addr)(L c:Nat)(W:World):Prop:=∃(M:Nat)(q:List (Bh (M+1))),q.length=L/\ai w W/\(L<=c/\c<=maxLen)/\gM (M+1) W.heap.size W a q/\nn M q=0/\aw (M+6) (bW M q) 7 (bW 1 eX)=true
theorem GB(w:World):ak 18 #[] w λe w'=>∃a l c,e=.returned (.slice a l c)/\Hid (xt w a l c w'):=by
 refine Dt JS rfl w (λy0 y1 y2 ya yl yc f=>∃(b:Nat)(d:Tm (b+1)),(d.1=(y0,y1,y2)/\d.2.1=(ya,yc)/\d.2.2.length=yl)/\aw (b+1) d 7 (bW 1 eX)=true/\In f.heap.size f (b+1) d/\ai w f) (xt w) ((AR LK nN.1 w).mono ?_) λy0 y1 y2 ya yl yc f m D i=>?_
 ·rintro e w' ⟨b,d,rfl,h⟩;obtain⟨z,A,_,B⟩:=h.out;exact⟨_,_,_,_,_,_,rfl,b,d,⟨rfl,rfl,rfl⟩,z,A,B⟩
 ·obtain⟨b,d,⟨n,o,y⟩,j,E,p⟩:=D;obtain⟨⟨K,L,M⟩,⟨N,O⟩,P⟩:=d;simp only[ei]at n o;obtain⟨rfl,rfl,rfl⟩:=n;obtain⟨rfl,rfl⟩:=o;subst y;have g:=(bL j).trans nN.1;obtain⟨Q,k,t,_⟩:=Jn b (b+1) 1 (aj _) eX (fE Ih).1 _ (pw g) j;have C:Af b (b+1) ((K,L,M),(N,O),P)=0:=by
   unfold Af;rw[if_pos g,k];unfold Ag;simp only[t,cM]
  have r:=Ah b (b+1) (aj _) _ m.heap.size m ((E.below i).mono i.size) (eR g) (aj _);rw[C]at r;refine r.mono ?_;rintro e w' ⟨u,a,c,rfl,h⟩;obtain⟨G,H,I,_,_,J⟩:=h.out;obtain⟨R,s,F⟩:=J rfl;rw[k]at s;obtain rfl:=au s;obtain⟨_,v,x,_⟩:=wL (aj _) g k F t;rw[(fE v).2.2]at x;have q:=p.trans (i.mono p.size);exact⟨a,u.length,c,rfl,b,u,rfl,q.trans (G.mono q.size),H,I,v,bD _ _ _ _ _ _ x j⟩
def tD(w0:World)(s:Sy)(i a:Nat)(W:World):Prop:=∃(p:kJ)(d:fS),p.b=a/\aX p s d W/\(p.room=60/\aw (p.n+6) (bW p.n p.prog) 7 (bW 1 eX)=true)/\(d.k<=i*402/\d.es.length<=i*201/\d.wn<=i*201/\d.bn<=i*201)/\ai w0 W/\w0.heap.size<=p.lo
theorem JM(w0:World){a:Option Addr}{L c:Nat}{W:World}(m:xt w0 a L c W):ak 17 #[.slice a L c,ab 60] W λe w'=>∃i,e=.returned (.tuple #[.pointer (some ⟨i,0,none⟩),ab 0])/\Hid (tD w0 Ki 0 i w'):=by
 obtain⟨k,s,rfl,d,g,n,f,o⟩:=m;refine(Bi k s a c 60 W n g.1 g.2 λ_=>eR (fE f).2.1).mono ?_;rintro e w' ⟨E,x,rfl,j⟩;obtain⟨p,q,_,r⟩:=j.out;have y:x=0:=by
  rw[p];unfold Bg;rw[if_neg (by rw[f];decide),if_pos (by decide)]
 subst y;obtain⟨h,l,rfl,t,⟨z,u,A,B⟩,v,C,D,w⟩:=r rfl;exact⟨h.b,rfl,h,l,rfl,t,⟨v,bD _ _ _ _ _ _ w o⟩,⟨by omega,by rw[u];exact aF _,by omega,by omega⟩,d.trans (q.mono d.size),by have:=d.size;omega⟩
theorem aX.sound{p:kJ}{s:Sy}{d:fS}{w:World}(e:aX p s d w):∀a nm cs c,s.get a=some (nm,cs,c)->(bq 13 cs=0/\aH 13 cs=true)/\∀t∈c,bq 13 t=0/\aH 13 t=true:=λa nm cs c g=>by
 obtain⟨b,k⟩:∃b,cN d.l a=some b:=by
  have:=e.alive a;rw[g]at this;exact fJ.1 this
 obtain⟨q,i,h,f,j,_⟩:=e.ps a b k;rw[g]at f;obtain⟨rfl,rfl,rfl⟩:nm=q/\cs=i/\c=h:=by simpa using f
 obtain⟨m,n,o,_⟩:=j.ok;exact⟨⟨m,n⟩,o⟩
def BN(w0:World)(V:Nat->Prop)(a:World)(s:Sy)(i c:Nat)(W:World):Prop:=∃(p:kJ)(d:fS),p.b=c/\aX p s d W/\(p.room=60/\aw (p.n+6) (bW p.n p.prog) 7 (bW 1 eX)=true)/\(d.k<=i*402/\d.es.length<=i*201/\d.wn<=i*201/\d.bn<=i*201)/\(ai w0 W/\w0.heap.size<=p.lo)/\(∀q,V q->q<a.heap.size/\d.ow q=0)/\bk (λq=>¬V q) a W
theorem BN.later{w0:World}{V:Nat->Prop}{d:World}{s:Sy}{i e:Nat}{W c:World}(h:BN w0 V d s i e W)(b:ai W c):BN w0 V d s i e c:=by
 obtain⟨o,f,g,j,k,l,a,m,n⟩:=h;exact⟨o,f,g,j.later b,k,l,⟨a.1.trans (b.mono a.1.size),a.2⟩,m,n.trans (aD b _) λ_ _ p=>p⟩
theorem BN.at{w0:World}{V:Nat->Prop}{c:World}{s:Sy}{i b:Nat}{W:World}(f:BN w0 V c s i b W):tD w0 s i b W:=by
 obtain⟨k,d,e,g,h,j,a,_⟩:=f;exact⟨k,d,e,g,h,j,a.1,a.2⟩
theorem tD.from{w0:World}{s:Sy}{i g:Nat}{a W:World}(l:tD w0 s i g a)(f:ai a W){V:Nat->Prop}(e:∀q,V q->a.heap.size<=q/\q<W.heap.size):BN w0 V W s i g W:=by
 obtain⟨p,b,k,c,m,n,d,o⟩:=l;refine⟨p,b,k,c.later f,m,n,⟨d.trans (f.mono d.size),o⟩,λq h=>⟨(e q h).2,?_⟩,bk.refl _ _⟩;by_cases j:b.ow q=0
 ·exact j
 ·have:=(c.low q j).2;have:=(e q h).1;omega
theorem ML{n:Nat}{P:List (Bh (n+1))}(f:aw (n+6) (bW n P) 7 (bW 1 eX)=true)(g:nn n P=0){s:Sy}(i:∀a nm cs d,s.get a=some (nm,cs,d)->(bq 13 cs=0/\aH 13 cs=true)/\∀t∈d,bq 13 t=0/\aH 13 t=true)(h:0<=s.last/\s.last<=90)(e:Int×Int×Int×Tc){m:Nat}{x:Tm m}(b:aw m x 13 e.2.2.2=true\/e.1≠3):s.do n P 60 e.1 e.2.1 e.2.2.1 m x=Ib s e:=by
 rw[KN f g Ih i h];rcases b with b|b
 ·by_cases c:e.1=3
  ·unfold Ib;rw[c];exact IF b s 60 e.2.1 e.2.2.1
  ·unfold Ib Sy.do;rw[if_neg c,if_neg c]
 ·unfold Ib Sy.do;rw[if_neg b,if_neg b]
theorem qU{p:kJ}{s:Sy}{d f:fS}{a c B:Nat}{w w':World}(b:aX p s d w)(k:fK a c d f w w')(h:B<=p.lo):Below B w w':=by
 refine⟨k.1.os,k.1.tape,k.1.output,k.1.size,λe i=>k.1.block e ?_ λg=>?_⟩
 ·have:=b.lo.1;omega
 ·have:=(b.low e g).1;omega
theorem LG{w0:World}{V:Nat->Prop}{g:World}{s:Sy}{i l:Nat}{W:World}(y:BN w0 V g s i l W)(I:i<=100)(e:Int×Int×Int×Tc)(A:I2 (e.2.1,e.2.2.1)){m:Nat}(x:Tm (m+1))(E:In g.heap.size g (m+1) x/\bZ V (m+1) x)(z:(av (m+1) x).length<=2097152)(C:aw (m+1) x 13 e.2.2.2=true\/e.1≠3):ak 8 #[.pointer (some ⟨l,0,none⟩),.agg #[ab e.1,ab e.2.1,ab e.2.2.1,ab x.1.1,ab x.1.2.1,ae x.1.2.2,.slice x.2.1.1 x.2.2.length x.2.1.2]] W λr w'=>r=.returned (ab (Ib s e).2)/\Hid (BN w0 V g (Ib s e).1 (i+1) l w'):=by
 obtain⟨F,G,rfl,d,⟨o,p⟩,J,j,f,k⟩:=y;have q:=eS k (D:=V) (λb a n=>n a) E;have B:=ML p d.pg.2.2.2.1 d.sound ⟨d.keys.2.2.2.1,d.keys.2.2.2.2.1⟩ e C;refine(d.do A x ⟨q.1,q.2.mono λc a=>?_⟩ z (by omega) (by omega) (by omega) (by omega)).mono ?_
 ·have:=(f c a).2;omega
 ·rintro r w' ⟨O,rfl,v⟩;obtain⟨t,w,u,h⟩:=v.out;rw[o,B]at t u;have H:=k.size;refine⟨by rw[t],F,w,rfl,u,⟨o,p⟩,?_,⟨j.1.trans (qU d h j.2),j.2⟩,λc a=>⟨(f c a).1,?_⟩,k.trans h.1 λc _ a n=>?_⟩
  ·obtain⟨_,_,K,L,M,N⟩:=h;omega
  ·rw[h.2.1 c (by have:=(f c a).1;omega)];exact(f c a).2
  ·exact a (f c n).2
def wt:(n:Nat)->Tm n->Nat
 | 0,_=>1
 | n+1,x=>1+x.1.2.2.size+(x.2.2.map λy=>wt n y).sum
theorem qE:(n:Nat)->(x:Tm n)->(av n x).length<=wt n x
 | 0,_=>by simp[av,wt]
 | n+1,x=>by
  have key:∀l:List (Tm n),(l.flatMap λy=>av n y).length<=(l.map λy=>wt n y).sum:=by
   intro l
   induction l with
   | nil=>simp
   | cons y l ih=>
    have:=qE n y;simp only[bv,bf,aI,bC];omega
  have:=key x.2.2;simp only[av,wt,aZ];omega
theorem own:ownKnob Tryz.prog.godebug=none:=by kernel_rfl
theorem qy:laidOutB Tryz.prog=true:=by kernel_rfl
theorem jK:Tryz.prog.cellsOf 30=4:=by kernel_rfl
theorem tO:Tryz.prog.cellsOf 3=1:=by kernel_rfl
theorem kO:Tryz.prog.cellsOf 9=1:=by kernel_rfl
theorem B6:Tryz.prog.cellsOf 28=1:=by kernel_rfl
theorem yd{f:Type}{P:Nat->f->Prop}:(len:Nat)->(∀i,i<len->∃y,P i y)->∃l:List f,l.length=len/\∀i y,l[i]?=some y->P i y
 | 0,_=>⟨[],rfl,λi y b=>by simp at b⟩
 | len+1,b=>by
  obtain⟨l,j,k⟩:=yd len (λi d=>b i (by omega));obtain⟨e,m⟩:=b len (by omega);refine⟨l++ [e],by simp[j],λi y a=>?_⟩;by_cases d:i<l.length
  ·rw[dg d]at a;exact k i y a
  ·rw[dN (by omega)]at a;have c:i-l.length=0:=by
    by_cases c:i-l.length=0
    ·exact c
    ·rw[eg (by simp;omega)]at a;cases a
   rw[c]at a;have g:e=y:=by simpa using a
   have h:i=len:=by omega
   rw[h,<-g];exact m
theorem Mg{H:Type}{n:Nat}:(p:List (Tm n))->(es:List (DataW H))->(∀(i:Nat)(y:Tm n)(e:DataW H),p[i]?=some y->es[i]?=some e->wt n y<=Rows.uptoBulk e)->p.length=es.length->(p.map λy=>wt n y).sum<=Rows.uptoBulkAll es
 | [],es,_,h=>by simp
 | y::p,[],_,h=>by simp at h
 | y::p,e::es,hp,h=>by
  have f:=hp 0 y e (by simp) (by simp);have g:=Mg p es (λi d a c b=>hp (i+1) d a (by simpa using c) (by simpa using b)) (by simpa using h);simp only[aI,bC,Rows.uptoBulkAll];omega
theorem DK(b o i j:Nat):((⟨b,o,none⟩:Addr).add i).add j=⟨b,o+i+j,none⟩:=by
 unfold Addr.add;split<;>split<;>simp_all
theorem wW{w:World}{a:Addr}{v:Value}(c:w.cell? ((a.add 0).add 0)=some v):a=⟨a.block,a.off,none⟩:=by
 have d:(a.add 0).add 0=a:=rfl;rw[d]at c;unfold World.cell? at c;split at c
 ·split at c
  ·cases c
  ·rename_i e;cases a with
   | mk b o f=>cases f with
    | none=>rfl
    | some g=>simp at e
 ·cases c
theorem yV{k:Int}(a:(Lit.int .i64 k).wf=true):dk k:=by
 have: -9223372036854775808<=k/\k<=9223372036854775807:=by simpa [Lit.wf,IntKind.min,IntKind.max,IntKind.signed,IntKind.bits]using a
 exact this
theorem LI{H:Type}(enc:TypeId×Value->H)(w:World)(p:Nat->Bool):(n f:Nat)->f<=2*n+1->(cs:List Value)->(x:DataW H×List MemPlace)-> DataW.trod enc Tryz.prog w 0 p true f 30 cs=some x-> ∃t:Tm (n+1),cs=[ab t.1.1,ab t.1.2.1,ae t.1.2.2,.slice t.2.1.1 t.2.2.length t.2.1.2]/\In w.heap.size w (n+1) t/\wt (n+1) t<=Rows.uptoBulk x.1:=by
 intro n
 induction n with
 | zero=>
  intro f ap cs x l;obtain⟨h,m,rfl,rfl,I,K,q⟩:=iI Tryz.underlying30 l;have u:DataW.trod enc Tryz.prog w 0 p true m 3 ((cs.drop 0).take (Tryz.prog.cellsOf 3))=h[0]? :=q 0 _ rfl;obtain rfl:m=0:=by omega
  have aJ:h.length=4:=K;rw[aE (by omega)]at u;cases u
 | succ n ih=>
  intro f ap cs x l;obtain⟨h,m,rfl,rfl,I,K,q⟩:=iI Tryz.underlying30 l;have u:DataW.trod enc Tryz.prog w 0 p true m 3 ((cs.drop 0).take (Tryz.prog.cellsOf 3))=h[0]? :=q 0 _ rfl;have R:DataW.trod enc Tryz.prog w 0 p true m 3 ((cs.drop 1).take (Tryz.prog.cellsOf 3))=h[1]? :=q 1 _ rfl;have S:DataW.trod enc Tryz.prog w 0 p true m 9 ((cs.drop 2).take (Tryz.prog.cellsOf 9))=h[2]? :=q 2 _ rfl;have T:DataW.trod enc Tryz.prog w 0 p true m 28 ((cs.drop 3).take (Tryz.prog.cellsOf 28))=h[3]? :=q 3 _ rfl;rw[tO]at u R;rw[kO]at S;rw[B6]at T;rw[jK]at I;obtain⟨d,i,j,e,rfl⟩:∃d i j e,cs=[d,i,j,e]:=by
   match cs,I with
   | [d,i,j,e],_=>exact⟨d,i,j,e,rfl⟩
  obtain⟨y0,y1,y2,y,rfl⟩:∃y0 y1 y2 y,h=[y0,y1,y2,y]:=by
   match h,K with
   | [y0,y1,y2,y],_=>exact⟨y0,y1,y2,y,rfl⟩
  obtain⟨k,O,ax,Y⟩:=iH Tryz.underlying3 (x:=y0) (by simpa using u);obtain⟨X,P,ay,Z⟩:=iH Tryz.underlying3 (x:=y1) (by simpa using R);obtain⟨r,Q,az,aa⟩:=oC Tryz.underlying9 (x:=y2) (by simpa using S);have ai:DataW.trod enc Tryz.prog w 0 p true m 28 [e]=some y:=by simpa using T
  simp at O P Q;subst O P Q ax ay az;rcases DataW.trod_slice Tryz.underlying28 ai with⟨s,rfl⟩|⟨a,len,cap,D,aL,aw,rfl,s,rfl,_,aC,am,aB,E,_,_⟩
  ·simp at s;subst s;refine⟨((k,X,r),(none,0),[]),rfl,⟨⟨yV Y,yV Z,aa,aj _,aF _⟩,ag rfl⟩,?_⟩;have es:r.data.toList.length=r.size:=by rw[gZ];rfl
   simp only[wt,Rows.uptoBulk,Rows.uptoBulkAll,aI,bR,jh];omega
  ·simp at s;subst s;simp only[jK]at E;have key:∀c,c<len->∃t:Tm (n+1),(∃b o,a=⟨b,o,none⟩/\b<w.heap.size/\dr w b (o+c*4) (n+1) t)/\In w.heap.size w (n+1) t/\∀g,(D.map (·.1))[c]?=some g->wt (n+1) t<=Rows.uptoBulk g:=by
    intro c ar;have V:=E c ar;have W:=E 0 (by omega);rw[aE (by omega)]at V W;obtain⟨ad,an,av⟩:=br.1 V;obtain⟨af,ao,aH⟩:=br.1 W;obtain⟨_,aD,z⟩:=oL an;obtain⟨_,aG,al⟩:=oL ao;obtain⟨t,rfl,G,F⟩:=ih aw (by omega) ad _ av;have U:=wW (w:=w) (a:=a) (v:=af[0]'(by omega)) (by have:=al 0 (by omega);rw[aE (by omega)]at this;simpa using this);have ak:∀C,(a.add (c*4)).add C=⟨a.block,a.off+c*4+C,none⟩:=λC=>by
     have:=DK a.block a.off (c*4) C;rw[<-U]at this;exact this
    have d:=z 0 (by omega);have i:=z 1 (by omega);have j:=z 2 (by omega);have e:=z 3 (by omega);rw[ak]at d i j e;simp at d i j e;refine⟨t,⟨a.block,a.off,U,fh w ⟨a.block,a.off+c*4,none⟩ d,d,i,j,e⟩,G,λg A=>?_⟩;rw[dh,aE (by omega)]at A;have:(D[c]).1=g:=by simpa using A
    rw[<-this];exact F
   obtain⟨M,B,J⟩:=yd len key;refine⟨((k,X,r),(some a,cap),M),by simp[B],⟨⟨yV Y,yV Z,aa,by simp only;omega,am⟩,?_⟩,?_⟩
   ·rcases Nat.eq_zero_or_pos len with l|l
    ·exact ag (bB (B.trans l))
    ·obtain⟨⟨b,o,rfl,F,_⟩,_,_⟩:=J 0 (M[0]'(by rw[B];exact l)) (aE (by rw[B];exact l));refine ah ⟨b,o,rfl,F,λc N L=>?_⟩;obtain⟨⟨aA,aK,g,_,aq⟩,G,_⟩:=J c N L;simp at g;obtain⟨rfl,rfl⟩:=g;exact⟨aq,G⟩
   ·have au:=Mg M (D.map (·.1)) (λc N g L A=>(J c N L).2.2 g A) (by simp;omega);have es:r.data.toList.length=r.size:=by rw[gZ];rfl
    simp only[wt,Rows.uptoBulk,Rows.uptoBulkAll,aI,bR]at au ⊢;omega
def Me(n:Nat)(a:Ac n):Nat:=wt n a.2.1.1+wt n a.2.1.2+a.2.2.1.size+1
def Mf(n:Nat)(c:Cl n):Nat:=wt n c.1.1+wt n c.1.2.1+wt n c.1.2.2+(c.2.2.map (Me n)).sum+1
def Kk(n:Nat)(b:Bh n):Nat:=b.1.size+(b.2.2.map (Mf n)).sum+1
theorem zy:Tryz.prog.cellsOf 224=11:=by kernel_rfl
theorem r8:Tryz.prog.cellsOf 147=13:=by kernel_rfl
theorem zB:Tryz.prog.cellsOf 138=2:=by kernel_rfl
theorem EV:Tryz.prog.cellsOf 145=1:=by kernel_rfl
theorem xE:Tryz.prog.cellsOf 136=1:=by kernel_rfl
theorem Em{a H:Type}(g:a->Nat):(p:List a)->(es:List (DataW H))->(∀(i:Nat)(y:a)(e:DataW H),p[i]?=some y->es[i]?=some e->g y<=Rows.uptoBulk e)->p.length=es.length->(p.map g).sum<=Rows.uptoBulkAll es
 | [],es,_,h=>by simp
 | y::p,[],_,h=>by simp at h
 | y::p,e::es,hp,h=>by
  have j:=hp 0 y e (by simp) (by simp);have k:=Em g p es (λi f b d c=>hp (i+1) f b (by simpa using d) (by simpa using c)) (by simpa using h);simp only[aI,bC,Rows.uptoBulkAll];omega
theorem uS{H q:Type}(enc:TypeId×Value->H)(w:World)(L:Nat->Bool)(k:Nat)(f:q->List Value)(r:q->Prop)(g:q->Nat)(T S:TypeId)(P:Tryz.prog.underlying S=some (.slice T))(ab:Tryz.prog.cellsOf T=k)(am:0<k)(K:∀y,(f y).length=k)(D:Nat)(O:∀(m:Nat)(cs:List Value)(x:DataW H×List MemPlace),m<=D->DataW.trod enc Tryz.prog w 0 L true m T cs=some x->∃y,cs=f y/\r y/\g y<=Rows.uptoBulk x.1)(m:Nat)(aq:m<=D)(v:Value)(x:DataW H×List MemPlace)(j:DataW.trod enc Tryz.prog w 0 L true m S [v]=some x):∃a l c,v=.slice a l.length c/\l.length<=c/\c<=maxLen/\pr w.heap.size w k f r a l/\(l.map g).sum+1<=Rows.uptoBulk x.1:=by
 rcases DataW.trod_slice P j with⟨d,rfl⟩|⟨a,len,cap,s,aw,af,rfl,d,rfl,_,ap,V,al,t,_,_⟩
 ·simp at d;subst d;exact⟨none,[],0,rfl,aj _,aF _,ag rfl,by simp[Rows.uptoBulk]⟩
 ·simp at d;subst d;simp only[ab]at t;have key:∀e,e<len->∃y:q,(∃b o,a=⟨b,o,none⟩/\b<w.heap.size/\∀(h:Nat)(i:Value),(f y)[h]?=some i->w.cell? ⟨b,o+e*k+h,none⟩=some i)/\r y/\∀d,(s.map (·.1))[e]?=some d->g y<=Rows.uptoBulk d:=by
   intro e Z;have G:=t e Z;have I:=t 0 (by omega);rw[aE (by omega)]at G I;obtain⟨M,W,ad⟩:=br.1 G;obtain⟨N,X,au⟩:=br.1 I;obtain⟨_,an,R⟩:=oL W;obtain⟨_,ao,U⟩:=oL X;obtain⟨y,rfl,z,u⟩:=O af M _ (by omega) ad;have E:=wW (w:=w) (a:=a) (v:=N[0]'(by omega)) (by have:=U 0 (by omega);rw[aE (by omega)]at this;simpa using this);have Q:∀h,(a.add (e*k)).add h=⟨a.block,a.off+e*k+h,none⟩:=λh=>by
    have:=DK a.block a.off (e*k) h;rw[<-E]at this;exact this
   have F:∀(h:Nat)(i:Value),(f y)[h]?=some i->w.cell? ⟨a.block,a.off+e*k+h,none⟩=some i:=λh i J=>by
    have aa:=(aM.1 J).1;have:=R h (by rw[K]at aa;omega);rw[Q,J]at this;exact this
   obtain⟨ai,ae⟩:∃i,(f y)[0]?=some i:=⟨(f y)[0]'(by rw[K];omega),aE _⟩;refine⟨y,⟨a.block,a.off,E,fh w ⟨a.block,a.off+e*k+0,none⟩ (F 0 ai ae),F⟩,z,λd n=>?_⟩;rw[dh,aE (by omega)]at n;have:(s[e]).1=d:=by simpa using n
   rw[<-this];exact u
  obtain⟨C,p,A⟩:=yd len key;refine⟨some a,C,cap,by rw[p],by omega,V,?_,?_⟩
  ·rcases Nat.eq_zero_or_pos len with j|j
   ·exact ag (bB (p.trans j))
   ·obtain⟨⟨b,o,rfl,u,_⟩,_,_⟩:=A 0 (C[0]'(by rw[p];exact j)) (aE (by rw[p];exact j));refine ah ⟨b,o,rfl,u,λe y B=>?_⟩;obtain⟨⟨ak,av,d,_,Y⟩,z,_⟩:=A e y B;simp at d;obtain⟨rfl,rfl⟩:=d;exact⟨Y,z⟩
  ·have ar:=Em g C (s.map (·.1)) (λe y d B n=>(A e y B).2.2 d n) (by simp;omega);simp only[Rows.uptoBulk];omega
theorem mQ{H:Type}(enc:TypeId×Value->H)(w:World)(a:Nat->Bool)(n m:Nat)(f:m<=n)(cs:List Value)(x:DataW H×List MemPlace)(b:DataW.trod enc Tryz.prog w 0 a true m 30 cs=some x):∃t:Tm (n+1),cs=gX (n+1) t/\In w.heap.size w (n+1) t/\wt (n+1) t<=Rows.uptoBulk x.1:=by
 obtain⟨t,c,d,e⟩:=LI enc w a n m (by omega) cs x b;exact⟨t,c,d,e⟩
theorem MD{H:Type}(enc:TypeId×Value->H)(w:World)(b:Nat->Bool)(n m:Nat)(Y:m<=n)(cs:List Value)(x:DataW H×List MemPlace)(M:DataW.trod enc Tryz.prog w 0 b true m 224 cs=some x):∃a:Ac (n+1),cs=fT (n+1) a/\ic (n+1) w.heap.size w a/\Me (n+1) a<=Rows.uptoBulk x.1:=by
 obtain⟨c,m,rfl,rfl,G,N,o⟩:=iI Tryz.underlying224 M;have B:DataW.trod enc Tryz.prog w 0 b true m 3 ((cs.drop 0).take (Tryz.prog.cellsOf 3))=c[0]? :=o 0 _ rfl;have C:DataW.trod enc Tryz.prog w 0 b true m 30 ((cs.drop 1).take (Tryz.prog.cellsOf 30))=c[1]? :=o 1 _ rfl;have D:DataW.trod enc Tryz.prog w 0 b true m 30 ((cs.drop 5).take (Tryz.prog.cellsOf 30))=c[2]? :=o 2 _ rfl;have E:DataW.trod enc Tryz.prog w 0 b true m 9 ((cs.drop 9).take (Tryz.prog.cellsOf 9))=c[3]? :=o 3 _ rfl;have F:DataW.trod enc Tryz.prog w 0 b true m 3 ((cs.drop 10).take (Tryz.prog.cellsOf 3))=c[4]? :=o 4 _ rfl;rw[tO]at B F;rw[jK]at C D;rw[kO]at E;rw[zy]at G;obtain⟨r,d,e,f,g,h,i,j,l,u,s,rfl⟩:∃r d e f g h i j l u s,cs=[r,d,e,f,g,h,i,j,l,u,s]:=by
  match cs,G with
  | [r,d,e,f,g,h,i,j,l,u,s],_=>exact⟨r,d,e,f,g,h,i,j,l,u,s,rfl⟩
 obtain⟨y0,y1,y2,p,q,rfl⟩:∃y0 y1 y2 p q,c=[y0,y1,y2,p,q]:=by
  match c,N with
  | [y0,y1,y2,p,q],_=>exact⟨y0,y1,y2,p,q,rfl⟩
 obtain⟨k,y,T,Q⟩:=iH Tryz.underlying3 (x:=y0) (by simpa using B);obtain⟨J,A,V,S⟩:=iH Tryz.underlying3 (x:=q) (by simpa using F);obtain⟨v,z,U,R⟩:=oC Tryz.underlying9 (x:=p) (by simpa using E);obtain⟨t,K,O,W⟩:=mQ enc w b n m (by omega) [d,e,f,g] y1 (by simpa using C);obtain⟨I,L,P,X⟩:=mQ enc w b n m (by omega) [h,i,j,l] y2 (by simpa using D);simp at y z A;subst y z A T U V;refine⟨(k,(t,I),(v,J)),?_,⟨yV Q,O,P,R,yV S⟩,?_⟩
 ·show _=ab k::(gX (n+1) t++gX (n+1) I++ [ae v,ab J]);rw[<-K,<-L];rfl
 ·have es:v.data.toList.length=v.size:=by rw[gZ];rfl
  simp only[Me,Rows.uptoBulk,Rows.uptoBulkAll,aI,bR];omega
theorem EY{H:Type}(enc:TypeId×Value->H)(w:World)(b:Nat->Bool)(n m:Nat)(F:m<=n)(cs:List Value)(x:DataW H×List MemPlace)(z:DataW.trod enc Tryz.prog w 0 b true m 147 cs=some x):∃a:Cl (n+1),cs=eO (n+1) a/\gL (n+1) w.heap.size w a/\Mf (n+1) a<=Rows.uptoBulk x.1:=by
 obtain⟨d,m,rfl,rfl,E,Q,y⟩:=iI Tryz.underlying147 z;have A:DataW.trod enc Tryz.prog w 0 b true m 30 ((cs.drop 0).take (Tryz.prog.cellsOf 30))=d[0]? :=y 0 _ rfl;have B:DataW.trod enc Tryz.prog w 0 b true m 30 ((cs.drop 4).take (Tryz.prog.cellsOf 30))=d[1]? :=y 1 _ rfl;have C:DataW.trod enc Tryz.prog w 0 b true m 145 ((cs.drop 8).take (Tryz.prog.cellsOf 145))=d[2]? :=y 2 _ rfl;have D:DataW.trod enc Tryz.prog w 0 b true m 30 ((cs.drop 9).take (Tryz.prog.cellsOf 30))=d[3]? :=y 3 _ rfl;rw[jK]at A B D;rw[EV]at C;rw[r8]at E;obtain⟨e,f,j,k,o,p,q,r,s,u,g,h,i,rfl⟩:∃e f j k o p q r s u g h i,cs=[e,f,j,k,o,p,q,r,s,u,g,h,i]:=by
  match cs,E with
  | [e,f,j,k,o,p,q,r,s,u,g,h,i],_=>exact⟨e,f,j,k,o,p,q,r,s,u,g,h,i,rfl⟩
 obtain⟨y0,y1,y2,v,rfl⟩:∃y0 y1 y2 v,d=[y0,y1,y2,v]:=by
  match d,Q with
  | [y0,y1,y2,v],_=>exact⟨y0,y1,y2,v,rfl⟩
 obtain⟨t,J,R,U⟩:=mQ enc w b n m (by omega) [e,f,j,k] y0 (by simpa using A);obtain⟨G,K,S,V⟩:=mQ enc w b n m (by omega) [o,p,q,r] y1 (by simpa using B);obtain⟨I,M,T,W⟩:=mQ enc w b n m (by omega) [u,g,h,i] v (by simpa using D);obtain⟨a,l,c,L,O,N,P,X⟩:=uS enc w b 11 (fT (n+1)) (ic (n+1) w.heap.size w) (Me (n+1)) 224 145 Tryz.underlying145 zy (by omega) (λ_=>rfl) n (λm cs x F z=>MD enc w b n m F cs x z) m (by omega) s y2 (by simpa using C);subst L;refine⟨((t,G,I),(a,c),l),?_,⟨⟨R,S,T⟩,⟨O,N⟩,P⟩,?_⟩
 ·show _=gX (n+1) t++gX (n+1) G++(.slice a l.length c::gX (n+1) I);rw[<-J,<-K,<-M];rfl
 ·simp only[Mf,Rows.uptoBulk,Rows.uptoBulkAll,aI,bR];omega
theorem MG{H:Type}(enc:TypeId×Value->H)(w:World)(d:Nat->Bool)(n m:Nat)(q:m<=n)(cs:List Value)(x:DataW H×List MemPlace)(g:DataW.trod enc Tryz.prog w 0 d true m 138 cs=some x):∃a:Bh (n+1),cs=oR (n+1) a/\oP (n+1) w.heap.size w a/\Kk (n+1) a<=Rows.uptoBulk x.1:=by
 obtain⟨f,m,rfl,rfl,p,v,o⟩:=iI Tryz.underlying138 g;have j:DataW.trod enc Tryz.prog w 0 d true m 9 ((cs.drop 0).take (Tryz.prog.cellsOf 9))=f[0]? :=o 0 _ rfl;have k:DataW.trod enc Tryz.prog w 0 d true m 136 ((cs.drop 1).take (Tryz.prog.cellsOf 136))=f[1]? :=o 1 _ rfl;rw[kO]at j;rw[xE]at k;rw[zB]at p;obtain⟨e,b,rfl⟩:∃e b,cs=[e,b]:=by
  match cs,p with
  | [e,b],_=>exact⟨e,b,rfl⟩
 obtain⟨y0,y1,rfl⟩:∃y0 y1,f=[y0,y1]:=by
  match f,v with
  | [y0,y1],_=>exact⟨y0,y1,rfl⟩
 obtain⟨h,i,z,y⟩:=oC Tryz.underlying9 (x:=y0) (by simpa using j);obtain⟨a,l,c,r,t,s,u,A⟩:=uS enc w d 13 (eO (n+1)) (gL (n+1) w.heap.size w) (Mf (n+1)) 147 136 Tryz.underlying136 r8 (by omega) (λ_=>rfl) n (λm cs x q g=>EY enc w d n m q cs x g) m (by omega) b y1 (by simpa using k);simp at i;subst i z r;refine⟨(h,(a,c),l),rfl,⟨y,⟨t,s⟩,u⟩,?_⟩;have es:h.data.toList.length=h.size:=by rw[gZ];rfl
 simp only[Kk,Rows.uptoBulk,Rows.uptoBulkAll,aI,bR];omega
theorem FX{H:Type}{enc:TypeId×Value->H}{W:World}{r:Reach}{g:Nat}{v:Value}{d:DataW H}{p:List MemPlace}(u:Value.okWide Tryz.prog W r g 22 v)(b:DataW.Trod enc Tryz.prog W 0 (λ_=>true) true 22 v d p):∃n,∃l:List (Bh (n+1)),∃a c,v=.slice a l.length c/\l.length<=c/\c<=maxLen/\gM (n+1) W.heap.size W a l/\(l.map (Kk (n+1))).sum<=Rows.uptoBulk d:=by
 obtain⟨a,len,cap,rfl⟩:=okWide_slice Tryz.underlying22 u;obtain⟨f,q⟩:=b;have s:DataW.trod enc Tryz.prog W 0 (λ_=>true) true f 22 [.slice a len cap]=some (d,p):=q;obtain⟨e,l,c,i,j,k,m,o⟩:=uS enc W (λ_=>true) 2 (oR (f+1)) (oP (f+1) W.heap.size W) (Kk (f+1)) 138 22 Tryz.underlying22 zB (by omega) (λ_=>rfl) f (λw h x t b=>MG enc W _ f w t h x b) f (aj _) _ _ s;exact⟨f,l,e,c,i,j,k,m,by simp only at o;omega⟩
end Go.Proofs.YtckamaoibonjcaaGreat
