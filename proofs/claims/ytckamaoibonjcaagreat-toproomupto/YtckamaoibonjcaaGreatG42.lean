/- What is proved here: plain facts and contracts that the claimed theorem stands on. No condition but those that each names. -/
import Derived.Test.YtckamaoibonjcaaGreatG41
import Derived.BigRegion
import Derived.ProofKit
import Derived.OpenShut
import Derived.JoinedCond
namespace Go.Proofs.YtckamaoibonjcaaGreat
open Go.RowKit
open Go.ChangeShapes Go.WideShapes Go.ChangeAt Go.RowKit
set_option maxHeartbeats 2000000
set_option maxRecDepth 100000
theorem Iu{x:ByteArray}(a:x.toList=[]):eY x=false:=by
 rw[bW]at a;have b:x.size=0:=by
  have:x.data.toList.length=x.size:=by simp
  rw[a]at this;exact this.symm
 simp[eY,bW,ew,a,b]
theorem kX.undrew{n r:Nat}{s:ByteArray}{a:List e9}{w w1:World}{m:Nat}{v:Value}{ok:Bool}(b:kX n s r a (w.drewN m) w1 v ok):kX n s r a w w1 v ok:=by
 obtain⟨c,d⟩:=b;exact⟨bN (eh w m _) c,d⟩
theorem Iv{n r:Nat}{s:ByteArray}{b e:Nat}{d:List e9}{w w1 w2:World}{x:ByteArray}(a:At s b e d)(h:s.extract b e=x)(z:s.size<=2048)(i:BH x=false){k f:Int}{t:ByteArray}(c:eY x=true)(u:(k,f,t)=kA x)(A:t.size<=x.size)(p:dh k)(q:dh f){o:Obj}(m:ag w w1)(v:Rd r s (dq s e) (dW s e) w2)(g:(w1.alloc o).grownBy w2 (some r)):kX (n+1) s r d w w2 (.agg #[.int .i64 k,.int .i64 f,.string t,.slice none 0 0]) true:=by
 have B:x.size<=2048:=by rw[<-h];simp;have:=a.2.1;omega
 refine⟨bN (fo (nv (fZ w _) m) o) g,dq s e,dW s e,jr s e,v,At.next a.2.1,λ_=>?_,by simp⟩;cases d with
 | nil=>
  have:=a.nil;rw[h]at this;rw[Iu this]at c;exact absurd c (by simp)
 | cons C d=>
  obtain⟨j,l,_⟩:=a.cons;subst j l;rw[h];refine⟨⟨((k,f,t),(none,0),[]),rfl,⟨_,_,rfl,ae ⟨i,c,u,rfl,rfl⟩⟩,⟨⟨p,q,by unfold maxLen;simp only;omega,aB _,aB _⟩,ae rfl⟩,ae rfl⟩,λy=>?_⟩;simp only[BG,i,c];simp
theorem KL{n r:Nat}{s:ByteArray}{b e:Nat}{a:List e9}{w w1:World}{x:ByteArray}(d:At s b e a)(k:s.extract b e=x)(j:BH x=false)(i:eY x=false)(c:Rd r s b e w)(f:ag w w1)(v:Value):kX (n+1) s r a w w1 v false:=by
 refine⟨nv (fZ w _) f,b,e,a,c.block (f.block r c.lt),d,by simp,λ_ l=>?_⟩;cases a with
 | nil=>rfl
 | cons m a=>
  obtain⟨g,h,_⟩:=d.cons;subst g h;simp only[BG,k,j,i];simp[IX]
theorem EC{w w1:World}{m:Nat}(a:Below (w.drewN m).heap.size (w.drewN m) w1):ag w w1:=⟨a.os,a.tape,a.output,a.size,a.block⟩
theorem tA{w w2:World}{r:Nat}{v0 v1 v2 v3:Value}(a:r<w.heap.size)(g:(w.alloc (.cells #[v0,v1,v2,v3] 30)).grownBy w2 (some r)):Bx w.heap.size v0 v1 v2 v3 w2:=
 (Bx.new w v0 v1 v2 v3).block (g.block _ (by simp) (by simp;omega))
theorem wQ(n:Nat)(r:Nat)(s:ByteArray)(b e:Nat)(p:List e9)(w:World)(l:Rd r s b e w)(D:At s b e p)(E:s.size<=2048)(ih:∀w':World,Rd r s b e w'->BH (s.extract b e)=true->ah 94 #[.pointer (some ⟨r,0,none⟩)] w' λd W=>J0 (n+1) s r p w' W d):ah 62 #[.pointer (some ⟨r,0,none⟩)] w λd w'=>J0 (n+1) s r p w w' d:=by
 have h:=l.lt;have a:=aj (⟨l,D⟩:_/\_);have O:=aj ih;clear l D ih;obtain⟨c,m⟩:∃c,s.extract b e=c:=⟨_,rfl⟩;have g:=aj m;have V:c.size<=2048:=by rw[<-m];simp;have:=a.out.2.2.1;omega
 clear m;cases hc:(c.toList==[40])
 ·have ab:(c.toList=[40])=False:=by simpa using hc
  have ad:(c.toList !=[40])=true:=by simpa using hc
  go_enter Tryz.func62,Tryz.ntmps62
  go_wp2_with (first
   | (go_at_call 63;refine(om r s b e c _ (a.out.1.alloc _) a.out.2.1 a.out.2.2.1 g.out).mono ?_;rintro d L ⟨rfl,o,rfl⟩)
   | (go_at_call 63;refine(om r s b e c _ ((a.out.1.alloc _).drew o) a.out.2.1 a.out.2.2.1 g.out).mono ?_;rintro d L ⟨rfl,ak,rfl⟩)
   | (go_at_call 95;refine(FT c _ V).mono ?_;rintro d q ⟨⟨k,f,t,ok,rfl,A⟩,HB⟩;replace HB:=EC HB;obtain⟨⟨u,x,y,z⟩,P,Q,R,S⟩:=xo HB;have T:w.heap.size<q.heap.size:=(by have:=HB.size;simp at this;omega);have U:r<q.heap.size:=(by omega);replace HB:=aj HB;cases ok)
   | (go_at_call 61;refine(qx r s b e _ ((((a.out.1.alloc _).block (HB.out.block r (by simp;omega)))).alloc _) a.out.2.2.1 E).mono ?_;rintro d aq ⟨rfl,i⟩;have N:=aj (bN (fo (nv (fZ _ _) HB.out) _) i.out.2);obtain⟨⟨X,Y,Z,aa⟩,al,am,an,ao⟩:=(tA h N.out).cells;obtain⟨⟨y0,y1,y2,ar⟩,ae,af,ag,ai⟩:=(tA U i.out.2).cells;obtain⟨G,H,I,J,K⟩:=A.out;have M:=aj (kX.box h (Iv (n:=n) a.out.2 g.out E hc G.symm (H (by trivial)) I J K HB.out i.out.1 i.out.2));clear G H I J K))
  ·exact ap (v:=.tuple #[.agg #[.int .i64 k,.int .i64 f,.string t,.slice none 0 0],.bool false]) (by simp[results,Tryz.results62,go_sem,u,x,y,z,T]) rfl ⟨k,f,t,none,0,0,false,rfl,(kX.box h (KL a.out.2 g.out hc A.out.1.symm (a.out.1.alloc _) HB.out _) _ _ _ _).alloc _⟩
  ·exact ap (v:=.tuple #[.agg #[.int .i64 k,.int .i64 f,.string t,.slice none 0 0],.bool true]) (by simp[results,Tryz.results62,go_sem,X,Y,Z,aa]) rfl ⟨k,f,t,none,0,0,true,rfl,M.out _ _ _ _⟩
 ·go_enter Tryz.func62,Tryz.ntmps62
  go_wp2_with (first
   | (go_at_call 63;refine(om r s b e c _ (a.out.1.alloc _) a.out.2.1 a.out.2.2.1 g.out).mono ?_;rintro d L ⟨rfl,o,rfl⟩)
   | (go_at_call 94;refine(O.out _ ((a.out.1.alloc _).drew o) (by rw[g.out];exact hc)).mono ?_;rintro d q ⟨k,f,t,B,F,C,ok,rfl,j⟩;replace j:=aj j.out.undrew;obtain⟨⟨u,x,y,z⟩,P,Q,R,S⟩:=(tA h j.out.1).cells))
  exact ap (v:=.tuple #[.agg #[.int .i64 k,.int .i64 f,.string t,.slice B F C],.bool ok]) (by simp[results,Tryz.results62,go_sem,u,x,y,z]) rfl ⟨k,f,t,B,F,C,ok,rfl,kX.box h j.out _ _ _ _⟩
theorem FV(n:Nat):LC n:=by
 induction n with
 | zero=>
  intro g h b d c k j a f l;refine wQ 0 g h b d c k j a f λm _ e=>?_;have i:c=[]:=bD (by omega);subst i;simp[BH,a.nil]at e
 | succ n ih=>
  intro g h b d c k j a f l;refine wQ (n+1) g h b d c k j a f λm o e=>?_;cases c with
  | nil=>simp[BH,a.nil]at e
  | cons t c=>
   have i:=a.cons.1;refine Dp n ih g h b d t c m o a f (by simp at l;omega) ?_;rw[i];exact e
def nJ:Value:=.agg #[.int .i64 0,.int .i64 0,.string ⟨#[]⟩,.slice none 0 0]
def NU(s:ByteArray)(w w':World)(v:Value)(pos b:Int):Prop:=
 (2048<s.size/\v=nJ/\pos=0/\b=2)\/(∃c:Nat,s.size<=2048/\BG s.size (jr s 0) 0=some c/\v=nJ/\pos=c/\b=3)\/
  (s.size<=2048/\BG s.size (jr s 0) 0=none/\∃(n:Nat)(a:Tm n),Is n a (jr s 0) []/\In w'.heap.size w' n a/\bV (λd=>w.heap.size<=d) n a/\pos=0/\b=bm n a/\((bm n a≠0/\v=nJ)\/(bm n a=0/\v=dd n a)))
def NT(s:ByteArray)(w w':World)(e:Ending):Prop:=
 ∃(k d:Int)(t:ByteArray)(a:Option Addr)(l c:Nat)(pos b:Int),e=.returned (.tuple #[.agg #[.int .i64 k,.int .i64 d,.string t,.slice a l c],.int .i64 pos,.int .i64 b])/\
  Hid (NU s w w' (.agg #[.int .i64 k,.int .i64 d,.string t,.slice a l c]) pos b/\ag w w')
theorem uH{w:World}{q b:Nat}(a:b≠q)(v0 v1 v2 v3:Value):((((w.setCell ⟨q,0,none⟩ v0).setCell ⟨q,1,none⟩ v1).setCell ⟨q,2,none⟩ v2).setCell ⟨q,3,none⟩ v3).heap[b]?=w.heap[b]? :=by
 rw[eA _ _ _ _ (by simpa using a),eA _ _ _ _ (by simpa using a),eA _ _ _ _ (by simpa using a),eA _ _ _ _ (by simpa using a)]
theorem wH{w:World}{q:Nat}(v0 v1 v2 v3:Value):((((w.setCell ⟨q,0,none⟩ v0).setCell ⟨q,1,none⟩ v1).setCell ⟨q,2,none⟩ v2).setCell ⟨q,3,none⟩ v3).heap.size=w.heap.size:=by simp[World.setCell]
theorem FL{s:ByteArray}{w w2 a:World}(g:((w.alloc (.cells #[.int .i64 0,.int .i64 0,.string ⟨#[]⟩,.slice none 0 0] 30)).alloc (.cells #[.string s,.int .i64 0,.int .i64 0] 133)).grownBy w2 (some (w.heap.size+1)))(b:w2.grownBy a (some (w.heap.size+1))):Bx w.heap.size (.int .i64 0) (.int .i64 0) (.string ⟨#[]⟩) (.slice none 0 0) a/\w.heap.size+1<a.heap.size/\ag w a/\w.heap.size+2<=w2.heap.size:=by
 have c:=bN g b;have e:=g.size;have h:=b.size;simp at e;refine⟨((Bx.new w _ _ _ _).block (fi _ _ (by simp))).block (c.block _ (by simp;omega) (by simp)),by omega,?_,by omega⟩;exact(((ak _ _).alloc (ai _) _).alloc (by simp) _).grown c (by simp;omega) (λf d=>by simp at d;omega)
theorem In.drewN{B:Nat}{w:World}{n:Nat}{x:Tm n}(m:Nat){P:Nat->Prop}(k:bV P n x)(a:In B w n x):In B (w.drewN m) n x:=In.off (w:=w) (w':=w.drewN m) (λ_ _=>rfl) k a
theorem IS{s:ByteArray}{w w2 c:World}{v:Value}{b e:Nat}{a:List e9}{x:ByteArray}(A:s.extract b e=x)(z:(x.toList==[])=true)(D:s.size<=2048)(r:At s b e a)(E:w.heap.size+2<=w2.heap.size)(l:(∃x:Tm 2049,dd 2049 x=v/\Is 2049 x (jr s 0) a/\In c.heap.size c 2049 x/\bV (λq=>w2.heap.size<=q) 2049 x)/\∀d,BG s.size (jr s 0) d=jx s.size a d)(o:Obj)(m:Nat):∃y:Tm 2049,v=dd 2049 y/\Is 2049 y (jr s 0) []/\In ((c.alloc o).drewN m).heap.size ((c.alloc o).drewN m) 2049 y/\bV (λq=>w.heap.size+2<=q) 2049 y/\(ar 2049 y).length<=2097152/\BG s.size (jr s 0) 0=none:=by
 obtain⟨⟨y,n,h,i,f⟩,p⟩:=l;have j:a=[]:=by
  cases a with
  | nil=>rfl
  | cons t a=>
   have k:=r.cons.2.2;rw[A]at k;have g:x.toList=[]:=by simpa using z
   rw[bW]at g;have:x.data.toList.length=x.size:=by simp
   rw[g]at this;simp at this;omega
 subst j;have B:=isNodes 2049 y (jr s 0) [] h;have g:=kT s s.size 0 (by omega);refine⟨y,n.symm,h,In.drewN m f ((In.off (λb u=>fi c o u.2) (In.offB f i) i).mono (by simp)),f.mono λq C=>by omega,by simp at B;omega,p 0⟩
theorem IQ{w a c:World}{m:Nat}{v0 v1 v2 v3:Value}(d:Bx w.heap.size (.int .i64 0) (.int .i64 0) (.string ⟨#[]⟩) (.slice none 0 0) a)(b:Below ((a.alloc (.cells #[v0,v1,v2,v3] 30)).drewN m).heap.size ((a.alloc (.cells #[v0,v1,v2,v3] 30)).drewN m) c):Bx w.heap.size (.int .i64 0) (.int .i64 0) (.string ⟨#[]⟩) (.slice none 0 0) c/\Bx a.heap.size v0 v1 v2 v3 c:=by
 have e:=d.lt;exact⟨(d.block (fi _ _ e)).block (b.block _ (by simp;omega)),(Bx.new a v0 v1 v2 v3).block (b.block _ (by simp))⟩
theorem IR{s:ByteArray}{b e:Nat}{a:List e9}{x:ByteArray}(g:s.extract b e=x)(d:(x.toList==[])=false)(c:At s b e a)(f:BG s.size (jr s 0) 0=jx s.size a 0):BG s.size (jr s 0) 0=some b:=by
 rw[f,<-c.pos];cases a with
 | nil=>rw[<-g]at d;simp[c.nil]at d
 | cons t a=>rfl
theorem IP{w w4 a:World}{n:Nat}{y:Tm n}(c:In w4.heap.size w4 n y)(k:bV (λq=>w.heap.size+2<=q) n y)(b:ag w4 a)(v0 v1 v2 v3:Value):In ((((a.setCell ⟨w.heap.size,0,none⟩ v0).setCell ⟨w.heap.size,1,none⟩ v1).setCell ⟨w.heap.size,2,none⟩ v2).setCell ⟨w.heap.size,3,none⟩ v3).heap.size ((((a.setCell ⟨w.heap.size,0,none⟩ v0).setCell ⟨w.heap.size,1,none⟩ v1).setCell ⟨w.heap.size,2,none⟩ v2).setCell ⟨w.heap.size,3,none⟩ v3) n y:=by
 rw[wH];exact In.off (λq d=>uH (by omega) _ _ _ _) k ((c.below b).mono b.size)
theorem ph{w w1:World}(a:ag w w1)(v0 v1 v2 v3:Value):ag w ((((w1.setCell ⟨w.heap.size,0,none⟩ v0).setCell ⟨w.heap.size,1,none⟩ v1).setCell ⟨w.heap.size,2,none⟩ v2).setCell ⟨w.heap.size,3,none⟩ v3):=
 ⟨a.os,a.tape,a.output,by rw[wH];exact a.size,λk b=>(uH (by omega) _ _ _ _).trans (a.block k b)⟩
theorem km{B:Nat}{w w1:World}(a:Below B w w1)(m:Nat):Below B w (w1.drewN m):=⟨a.os,a.tape,a.output,a.size,a.block⟩
theorem lu{w w1:World}(a:ag w w1)(o:Obj):ag w (w1.alloc o):=a.alloc a.size o
theorem FM(s:ByteArray)(w:World)(S:s.size<=maxLen):ah 36 #[.string s] w λe w'=>NT s w w' e:=by
 unfold maxLen at S;by_cases D:2048<s.size
 ·have Q:(2048:Int)<s.size:=by omega
  go_enter Tryz.func36,Tryz.ntmps36;go_wp2_with fail;exact ap (v:=.tuple #[nJ,.int .i64 0,.int .i64 2]) (by simp[results,Tryz.results36,go_sem,nJ]) rfl ⟨0,0,⟨#[]⟩,none,0,0,0,2,rfl,ae ⟨D,rfl,rfl,rfl⟩,by go_grown⟩
 ·have Q:(s.size:Int)<=2048:=by omega
  have i:s.size<=2048:=by omega
  clear D;have P:Hid (Rd (w.heap.size+1) s 0 0 ((w.alloc (.cells #[.int .i64 0,.int .i64 0,.string ⟨#[]⟩,.slice none 0 0] 30)).alloc (.cells #[.string s,.int .i64 0,.int .i64 0] 133))):=by
   have:=ax (w.alloc (.cells #[.int .i64 0,.int .i64 0,.string ⟨#[]⟩,.slice none 0 0] 30)) (.cells #[.string s,.int .i64 0,.int .i64 0] 133);simpa [Hid,Rd]using this
  go_enter Tryz.func36,Tryz.ntmps36
  go_wp2_with (first
   | (go_at_call 61;refine(qx (w.heap.size+1) s 0 0 _ P.out (aB _) i).mono ?_;rintro o U ⟨rfl,B⟩)
   | (go_at_call 62;refine(FV 2048 (w.heap.size+1) s _ _ (jr s 0) U B.out.1 (At.next (aB _)) i (aw (kT s s.size 0 (by omega)) (by omega))).mono ?_;rintro o V ⟨k,A,t,y,l,c,ok,rfl,C⟩;obtain⟨q,aq,G,H⟩:=FL B.out.2 C.out.1;obtain⟨⟨K,L,M,N⟩,ab,ad,ag,ak⟩:=q.cells;have E:w.heap.size<V.heap.size:=(by omega);obtain⟨_,d,o,aC,b⟩:=C.out;replace b:=aj b;obtain⟨⟨W,X,Y⟩,ar,au⟩:=b.out.1.cells;have HB:=aj (⟨G,H⟩:_/\_);replace q:=aj q;clear G H;obtain⟨r,F⟩:∃r,s.extract d o=r:=⟨_,rfl⟩;have x:=aj F;clear F;cases ok)
   | (go_at_call 63;refine(om (w.heap.size+1) s d o r _ (b.out.1.alloc _) b.out.2.1.1 b.out.2.1.2.1 x.out).mono ?_;rintro Z aD ⟨rfl,m,rfl⟩;cases hc:(r.toList==[]))
   | (go_at_call 51;obtain⟨u,p,a⟩:=IS x.out hc i b.out.2.1 HB.out.2 (b.out.2.2.1 (by trivial)) _ m;replace a:=aj a;refine(show Calls _ _ #[.agg #[.int .i64 k,.int .i64 A,.string t,.slice y l c]] _ _ from p▸dx 2049 u _ _ a.out.2.1 (ai _) a.out.2.2.2.1).mono ?_;rintro aa aE ⟨rfl,h⟩;obtain⟨I,J⟩:=IQ q.out h;obtain⟨⟨y0,y1,y2,O⟩,al,am,an,ao⟩:=I.cells;obtain⟨⟨aF,aG,aH,aI⟩,av,ay,az,aA⟩:=J.cells;have n:=aj h;clear I J h;replace p:=aj p;obtain⟨j,g⟩:∃j,bm 2049 u=j:=⟨_,rfl⟩;rw[g];replace g:=aj g;by_cases z:j=0))
  ·go_region;go_wp2_with fail;have f:=HB.out.1;exact ap (v:=.tuple #[nJ,.int .i64 d,.int .i64 3]) (by simp[results,Tryz.results36,go_sem,nJ,E,K,L,M,N]) rfl ⟨0,0,⟨#[]⟩,none,0,0,d,3,rfl,af (ae ⟨d,i,by rw[<-b.out.2.1.pos];exact b.out.2.2.2 (by trivial) 0,rfl,rfl,rfl⟩),by go_grown⟩
  ·go_region;go_wp2_with fail;have f:=HB.out.1;exact ap (v:=.tuple #[nJ,.int .i64 d,.int .i64 3]) (by simp[results,Tryz.results36,go_sem,nJ,E,K,L,M,N]) rfl ⟨0,0,⟨#[]⟩,none,0,0,d,3,rfl,af (ae ⟨d,i,IR x.out hc b.out.2.1 ((b.out.2.2.1 (by trivial)).2 0),rfl,rfl,rfl⟩),ph (km (lu f _) _) _ _ _ _⟩
  ·have f:=HB.out.1;have h:=n.out;exact ap (v:=.tuple #[.agg #[.int .i64 k,.int .i64 A,.string t,.slice y l c],.int .i64 0,.int .i64 0]) (by simp[results,Tryz.results36,go_sem,y0,y1,y2,O]) rfl ⟨k,A,t,y,l,c,0,0,rfl,af (af ⟨i,a.out.2.2.2.2,2049,u,a.out.1,IP a.out.2.1 a.out.2.2.1 n.out _ _ _ _,a.out.2.2.1.mono (λT R=>by omega),rfl,(g.out.trans z).symm,af ⟨g.out.trans z,p.out⟩⟩),ph ((km (lu f _) m).trans (h.mono (km (lu f _) m).size)) _ _ _ _⟩
  ·have f:=HB.out.1;have h:=n.out;exact ap (v:=.tuple #[nJ,.int .i64 0,.int .i64 j]) (by simp[results,Tryz.results36,go_sem,nJ,y0,y1,y2,O]) rfl ⟨0,0,⟨#[]⟩,none,0,0,0,j,rfl,af (af ⟨i,a.out.2.2.2.2,2049,u,a.out.1,IP a.out.2.1 a.out.2.2.1 n.out _ _ _ _,a.out.2.2.1.mono (λT R=>by omega),rfl,g.out.symm,ae ⟨by rw[g.out];exact z,rfl⟩⟩),ph ((km (lu f _) m).trans (h.mono (km (lu f _) m).size)) _ _ _ _⟩
def My{a:Type}(f:a->List e9->Option (List e9)):List a->List e9->Option (List e9)
 | [],ts=>some ts
 | x::l,ts=>(f x ts).bind (My f l)
def NJ:(n:Nat)->Tm n->List e9->Option (List e9)
 | 0,_,_=>none
 | _+1,_,[]=>none
 | n+1,x,t::ts=>if BH t.2=true then if x.1=(4,0,⟨#[]⟩)then (My (NJ n) x.2.2 ts).bind λr=>match r with
    | []=>none
    | c::r=>if xM c.2=true then some r else none else none
  else if eY t.2=true/\x.1=kA t.2/\x.2.2.length=0 then some ts else none
theorem DZ{b:Type}{f:b->List e9->Option (List e9)}{g:b->List e9->List e9->Prop}(c:∀x a r,f x a=some r->g x a r):(l:List b)->∀{a r:List e9},My f l a=some r->Dx g l a r
 | [],a,r,e=>by
  have e:some a=some r:=e;exact aq e
 | x::l,a,r,e=>by
  obtain⟨m,d,h⟩:=bj.1 e;exact⟨m,c x a m d,DZ c l h⟩
theorem Ij:(n:Nat)->(x:Tm n)->(e r:List e9)->NJ n x e=some r->Is n x e r
 | 0,_,_,_,h=>by cases h
 | _+1,_,[],_,h=>by cases h
 | n+1,x,t::e,r,h=>by
  unfold NJ at h;refine⟨t,e,rfl,?_⟩;by_cases d:BH t.2=true
  ·rw[if_pos d]at h;by_cases g:x.1=(4,0,⟨#[]⟩)
   ·rw[if_pos g]at h;obtain⟨m,i,a⟩:=bj.1 h;cases m with
    | nil=>cases a
    | cons c m=>
     simp only at a;by_cases f:xM c.2=true
     ·rw[if_pos f]at a;obtain rfl:=aq a;exact af ⟨d,g,c,DZ (Ij n) x.2.2 i,f⟩
     ·rw[if_neg f]at a;cases a
   ·rw[if_neg g]at h;cases h
  ·rw[if_neg d]at h;by_cases b:eY t.2=true/\x.1=kA t.2/\x.2.2.length=0
   ·rw[if_pos b]at h;exact ae ⟨by simpa using d,b.1,b.2.1,bD b.2.2,(aq h).symm⟩
   ·rw[if_neg b]at h;cases h
def nK(s:ByteArray)(n:Nat)(y:Tm n):Prop:=s.size<=2048/\BG s.size (jr s 0) 0=none/\NJ n y (jr s 0)=some []
theorem AJ{s:ByteArray}{n:Nat}{y:Tm n}(i:nK s n y)(u:bm n y=0)(w:World):ah 36 #[.string s] w λe w'=>∃(m:Nat)(x:Tm (m+1)),e=.returned (.tuple #[.agg #[.int .i64 x.1.1,.int .i64 x.1.2.1,.string x.1.2.2,.slice x.2.1.1 x.2.2.length x.2.1.2],.int .i64 0,.int .i64 0])/\Hid (au (m+1) x n y=true/\In w'.heap.size w' (m+1) x/\bV (λq=>w.heap.size<=q) (m+1) x/\ag w w'):=by
 obtain⟨j,o,p⟩:=i;refine(FM s w (aw j (by unfold maxLen;omega))).mono ?_;rintro e w' ⟨k,E,t,B,l,c,pos,C,rfl,h⟩;obtain⟨z,r⟩:=h.out;rcases z with⟨a,_⟩|⟨D,_,a,_⟩|⟨_,_,m,x,A,f,v,rfl,rfl,b⟩
 ·omega
 ·rw[o]at a;cases a
 ·have g:=(Is.one m n x y _ _ _ A (Ij n y _ _ p)).1;have d:bm m x=0:=by
   rw[F7 m n x y g];exact u
  rcases b with⟨a,_⟩|⟨_,b⟩
  ·exact absurd d a
  ·cases m with
   | zero=>exact f.elim
   | succ m=>
    rw[d,b];exact⟨m,x,rfl,g,f,v,r⟩
def Jz:ByteArray:=⟨#[40,99,111,100,101,32,40,98,101,104,32,99,111,117,110,116,32,40,111,110,32,36,48,32,40,117,112,32,36,49,41,32,40,41,32,40,97,100,100,32,36,48,32,36,49,41,41,32,40,111,110,32,36,48,32,40,97,115,107,32,36,49,41,32,40,40,115,101,110,100,32,36,49,32,40,104,97,118,101,32,36,48,41,41,41,32,36,48,41,32,40,111,110,32,95,32,102,111,114,107,32,40,40,115,112,97,119,110,32,99,111,117,110,116,32,48,32,36,48,41,32,40,108,105,110,107,32,36,48,41,32,40,115,101,110,100,32,36,48,32,40,117,112,32,55,41,41,41,32,49,41,32,40,111,110,32,95,32,115,116,111,112,32,40,40,115,116,111,112,41,41,32,48,41,32,40,111,110,32,95,32,98,97,100,32,40,41,32,40,97,100,100,32,97,32,97,41,41,41,41]⟩
def N8:ByteArray:=⟨#[40,117,112,32,51,41]⟩
def MQ:ByteArray:=⟨#[102,111,114,107]⟩
def Nz:ByteArray:=⟨#[98,97,100]⟩
theorem Lo:nK Jz 7 (bR 1 eO):=⟨by decide,by kernel_rfl,by kernel_rfl⟩
theorem NB:nK N8 13 uq:=⟨by decide,by kernel_rfl,by kernel_rfl⟩
theorem Lp:nK MQ 13 (aU sy 12):=⟨by decide,by kernel_rfl,by kernel_rfl⟩
theorem MR:nK Nz 13 (aU Br 12):=⟨by decide,by kernel_rfl,by kernel_rfl⟩
theorem nG:bm 7 (bR 1 eO)=0/\bm 13 uq=0/\bm 13 (aU sy 12)=0/\bm 13 (aU Br 12)=0:=⟨by kernel_rfl,by kernel_rfl,by kernel_rfl,by kernel_rfl⟩
theorem Dj(s:ByteArray)(r:s=⟨#[40,99,111,100,101,32,40,98,101,104,32,99,111,117,110,116,32,40,111,110,32,36,48,32,40,117,112,32,36,49,41,32,40,41,32,40,97,100,100,32,36,48,32,36,49,41,41,32,40,111,110,32,36,48,32,40,97,115,107,32,36,49,41,32,40,40,115,101,110,100,32,36,49,32,40,104,97,118,101,32,36,48,41,41,41,32,36,48,41,32,40,111,110,32,95,32,102,111,114,107,32,40,40,115,112,97,119,110,32,99,111,117,110,116,32,48,32,36,48,41,32,40,108,105,110,107,32,36,48,41,32,40,115,101,110,100,32,36,48,32,40,117,112,32,55,41,41,41,32,49,41,32,40,111,110,32,95,32,115,116,111,112,32,40,40,115,116,111,112,41,41,32,48,41,32,40,111,110,32,95,32,98,97,100,32,40,41,32,40,97,100,100,32,97,32,97,41,41,41,41]⟩)(w:World)(o:Int->Int->ByteArray->Option Addr->Nat->Nat->World->Prop)(i:Option Addr->Nat->Nat->World->Prop)(m:Hid (ah 36 #[.string s] w λe w'=>∃y0 y1 y2 ya yl yc,e=.returned (.tuple #[.agg #[.int .i64 y0,.int .i64 y1,.string y2,.slice ya yl yc],.int .i64 0,.int .i64 0])/\Hid (o y0 y1 y2 ya yl yc w')))(k:Hid (∀y0 y1 y2 ya yl yc W n,o y0 y1 y2 ya yl yc W->ag W n->ah 35 #[.agg #[.int .i64 y0,.int .i64 y1,.string y2,.slice ya yl yc]] n λe w'=>∃a l c,e=.returned (.tuple #[.slice a l c,.int .i64 0])/\Hid (i a l c w'))):ah 18 #[] w λe w'=>∃a l c,e=.returned (.slice a l c)/\Hid (i a l c w'):=by
 subst r;go_enter Tryz.func18,Tryz.ntmps18;go_wp2_with fail;refine m.out.mono ?_;rintro e h ⟨y0,y1,y2,ya,yl,yc,rfl,j⟩;clear m;go_upto_region 2 with fail;generalize g:h.alloc _=b;have q:=aj (k.out _ _ _ _ _ _ _ b j.out (by rw[<-g];exact(ak _ _).alloc (ai _) _));have d:b.heap[h.heap.size]?=some (.cells #[.int .i64 y0,.int .i64 y1,.string y2,.slice ya yl yc] 30):=by
  rw[<-g];exact ax _ _
 generalize h.heap.size=f at*;have t:b.cell? ⟨f,0,none⟩=some (.int .i64 y0):=ab d 0;have u:b.cell? ⟨f,1,none⟩=some (.int .i64 y1):=ab d 1;have v:b.cell? ⟨f,2,none⟩=some (.string y2):=ab d 2;have x:b.cell? ⟨f,3,none⟩=some (.slice ya yl yc):=ab d 3;clear g d k j;go_wp2_with fail;refine q.out.mono ?_;rintro e y ⟨a,l,c,rfl,p⟩;go_wp2_with fail
 go_ret
 exact⟨a,l,c,rfl,p.out⟩
theorem Gp(p:Int)(s:ByteArray)(w:World)(u:Int->Int->ByteArray->Option Addr->Nat->Nat->World->Prop)(C:Hid (∀W,ag w W->w.heap.size<W.heap.size->ah 36 #[.string s] W λe w'=>∃y0 y1 y2 ya yl yc,e=.returned (.tuple #[.agg #[.int .i64 y0,.int .i64 y1,.string y2,.slice ya yl yc],.int .i64 0,.int .i64 0])/\Hid (ag W w'/\∀j,bi (λq=>q=w.heap.size) w' j->u y0 y1 y2 ya yl yc j))):ah 21 #[.int .i64 p,.string s] w λe w'=>∃y0 y1 y2 ya yl yc,e=.returned (.agg #[.int .i64 3,.int .i64 p,.int .i64 0,.int .i64 y0,.int .i64 y1,.string y2,.slice ya yl yc])/\Hid (u y0 y1 y2 ya yl yc w'/\ag w w'):=by
 go_enter Tryz.func21,Tryz.ntmps21;go_upto_region 1 with fail;generalize A:w.alloc _=r;have n:ag w r:=by rw[<-A];exact(ak _ _).alloc (ai _) _
 have y:r.heap[w.heap.size]?=some (.cells #[.int .i64 0,.int .i64 0,.int .i64 0,.int .i64 0,.int .i64 0,.string .empty,.slice none 0 0] 32):=by
  rw[<-A];exact ax _ _
 have z:=(aA.1 y).1;have D:=aj (C.out r n z);clear A C;go_wp2_with fail;refine D.out.mono ?_;rintro e g ⟨y0,y1,y2,ya,yl,yc,rfl,h⟩;clear D;go_upto_region 2 with fail;generalize B:g.alloc _=d;have i:ag g d:=by rw[<-B];exact(ak _ _).alloc (ai _) _
 have l:d.heap[g.heap.size]?=some (.cells #[.int .i64 y0,.int .i64 y1,.string y2,.slice ya yl yc] 30):=by
  rw[<-B];exact ax _ _
 have F:=h.out.1.size;have f:=(i.block w.heap.size (by omega)).trans ((h.out.1.block w.heap.size z).trans y);have T:w.heap.size≠g.heap.size:=by omega
 have HB:=aj (⟨n.trans ((h.out.1.trans (i.mono F)).mono n.size),h,aE i _⟩:ag w d/\Hid (ag r g/\∀j,bi (λq=>q=w.heap.size) g j->u y0 y1 y2 ya yl yc j)/\bi (λq=>q=w.heap.size) g d);generalize U:w.heap.size=a at*;generalize g.heap.size=q at*;have O:d.cell? ⟨q,0,none⟩=some (.int .i64 y0):=ab l 0;have P:d.cell? ⟨q,1,none⟩=some (.int .i64 y1):=ab l 1;have Q:d.cell? ⟨q,2,none⟩=some (.string y2):=ab l 2;have R:d.cell? ⟨q,3,none⟩=some (.slice ya yl yc):=ab l 3;have G:d.cell? ⟨a,0,none⟩=some (.int .i64 0):=ab f 0;have d1:d.cell? ⟨a,1,none⟩=some (.int .i64 0):=ab f 1;have H:d.cell? ⟨a,2,none⟩=some (.int .i64 0):=ab f 2;have I:d.cell? ⟨a,3,none⟩=some (.int .i64 0):=ab f 3;have J:d.cell? ⟨a,4,none⟩=some (.int .i64 0):=ab f 4;have K:d.cell? ⟨a,5,none⟩=some (.string .empty):=ab f 5;have L:d.cell? ⟨a,6,none⟩=some (.slice none 0 0):=ab f 6;have S:∀k,d.frozen? ⟨a,k,none⟩=false:=λk=>by simp[World.frozen?,f]
 clear B i l f h y z F n;go_wp2_with fail;obtain⟨o,h,i⟩:=HB.out;have x:bi (λb=>b=a) d (((((((d.setCell ⟨a,0,none⟩ (.int .i64 3)).setCell ⟨a,1,none⟩ (.int .i64 p)).setCell ⟨a,2,none⟩ (.int .i64 0)).setCell ⟨a,3,none⟩ (.int .i64 y0)).setCell ⟨a,4,none⟩ (.int .i64 y1)).setCell ⟨a,5,none⟩ (.string y2)).setCell ⟨a,6,none⟩ (.slice ya yl yc)):=by
  have t:∀{E b c:World},bi (λq=>q=a) E b->bi (λq=>q=a) b c->bi (λq=>q=a) E c:=λM k=>M.trans k λ_ _ m=>m;exact t (t (t (t (t (t (bt _ _ _ _) (bt _ _ _ _)) (bt _ _ _ _)) (bt _ _ _ _)) (bt _ _ _ _)) (bt _ _ _ _)) (bt _ _ _ _)
 refine ap (v:=.agg #[.int .i64 3,.int .i64 p,.int .i64 0,.int .i64 y0,.int .i64 y1,.string y2,.slice ya yl yc]) (by simp[results,Tryz.results21,go_sem,G,d1,H,I,J,K,L]) rfl ⟨y0,y1,y2,ya,yl,yc,rfl,h.out.2 _ (i.trans x λ_ _ m=>m),?_⟩
 first|exact(o.trans (x.below (by have:=o.size;omega) λb N m=>by omega)).mono (by omega)|exact o.trans (x.below (by have:=o.size;omega) λb N m=>by omega)
theorem Gn(x:Nat)(g n c:Nat)(kd f h i k:Nat->Int)(l:Nat->ByteArray)(xa:Nat->Option Addr)(m xc:Nat->Nat)(w:World)(K:Nat->World->Prop)(P:n<=1000)(s:Hid (K 0 w))(o:Hid (∀j W,j<n->K j W->(W.cell? ⟨g,j*7,none⟩=some (.int .i64 (kd j))/\W.cell? ⟨g,j*7+1,none⟩=some (.int .i64 (f j))/\W.cell? ⟨g,j*7+2,none⟩=some (.int .i64 (h j))/\W.cell? ⟨g,j*7+3,none⟩=some (.int .i64 (i j))/\W.cell? ⟨g,j*7+4,none⟩=some (.int .i64 (k j))/\W.cell? ⟨g,j*7+5,none⟩=some (.string (l j))/\W.cell? ⟨g,j*7+6,none⟩=some (.slice (xa j) (m j) (xc j)))/\Hid (∀u,ag W u->ah 8 #[.pointer (some ⟨x,0,none⟩),.agg #[.int .i64 (kd j),.int .i64 (f j),.int .i64 (h j),.int .i64 (i j),.int .i64 (k j),.string (l j),.slice (xa j) (m j) (xc j)]] u λe w'=>e=.returned (.int .i64 0)/\Hid (K (j+1) w')))):ah 20 #[.pointer (some ⟨x,0,none⟩),.slice (some ⟨g,0,none⟩) n c] w λe w'=>e=.returned (.bool true)/\Hid (K n w'):=by
 go_enter Tryz.func20,Tryz.ntmps20;go_wp2_with fail;go_loopw [6,9] (λ_ r wr=>∃(j:Nat),j<=n/\r=.int .i64 j/\Hid (K j wr)) (λ_ r _=>n-(intOf r).toNat)
 case atStart=>exact⟨0,aB _,rfl,s.out⟩
 case round=>
 clear s;obtain⟨j,H,rfl,p⟩:=hrel;by_cases v:j<n
 ·obtain⟨⟨A,B,C,D,E,F,G⟩,t⟩:=o.out j _ v p.out;have Q:(0:Int)<=(j:Int):=by omega
  have R:(j:Int)<(n:Int):=by omega
  clear o p;go_upto_region 4 with fail;generalize q:World.alloc _ _=a;have b:a.heap[wr.heap.size]?=some (.cells #[.int .i64 (kd j),.int .i64 (f j),.int .i64 (h j),.int .i64 (i j),.int .i64 (k j),.string (l j),.slice (xa j) (m j) (xc j)] 32):=by
   rw[<-q];exact ax _ _
  have z:=aj (t.out a (by rw[<-q];exact(ak _ _).alloc (ai _) _));generalize wr.heap.size=d at*;have I:a.cell? ⟨d,0,none⟩=some (.int .i64 (kd j)):=ab b 0;have d1:a.cell? ⟨d,1,none⟩=some (.int .i64 (f j)):=ab b 1;have J:a.cell? ⟨d,2,none⟩=some (.int .i64 (h j)):=ab b 2;have L:a.cell? ⟨d,3,none⟩=some (.int .i64 (i j)):=ab b 3;have M:a.cell? ⟨d,4,none⟩=some (.int .i64 (k j)):=ab b 4;have N:a.cell? ⟨d,5,none⟩=some (.string (l j)):=ab b 5;have O:a.cell? ⟨d,6,none⟩=some (.slice (xa j) (m j) (xc j)):=ab b 6;clear q b t A B C D E F G;go_wp2_with fail;refine z.out.mono ?_;rintro e S ⟨rfl,y⟩;go_wp2_with fail;go_roundw
  case rel=>exact⟨j+1,by omega,by go_num,y.out⟩
  case measure=>simp[intOf];omega
 obtain rfl:j=n:=by omega
 clear o H v;go_wp2_with fail
 go_ret
 exact⟨rfl,p.out⟩
def xd(w:World)(a:Option Addr)(L c:Nat)(W:World):Prop:=∃(M:Nat)(q:List (Bh (M+1))),q.length=L/\ag w W/\(L<=c/\c<=maxLen)/\gF (M+1) W.heap.size W a q/\mZ M q=0/\au (M+6) (bR M q) 7 (bR 1 eO)=true
theorem Gj(w:World):ah 18 #[] w λe w'=>∃a l c,e=.returned (.slice a l c)/\Hid (xd w a l c w'):=by
 refine Dj Jz rfl w (λy0 y1 y2 ya yl yc f=>∃(b:Nat)(d:Tm (b+1)),(d.1=(y0,y1,y2)/\d.2.1=(ya,yc)/\d.2.2.length=yl)/\au (b+1) d 7 (bR 1 eO)=true/\In f.heap.size f (b+1) d/\ag w f) (xd w) ((AJ Lo nG.1 w).mono ?_) λy0 y1 y2 ya yl yc f m D i=>?_
 ·rintro e w' ⟨b,d,rfl,h⟩;obtain⟨z,A,_,B⟩:=h.out;exact⟨_,_,_,_,_,_,rfl,b,d,⟨rfl,rfl,rfl⟩,z,A,B⟩
 ·obtain⟨b,d,⟨n,o,y⟩,j,E,p⟩:=D;obtain⟨⟨K,L,M⟩,⟨N,O⟩,P⟩:=d;simp only[fC]at n o;obtain⟨rfl,rfl,rfl⟩:=n;obtain⟨rfl,rfl⟩:=o;subst y;have g:=(bH j).trans nG.1;obtain⟨Q,k,t,_⟩:=I3 b (b+1) 1 (ai _) eO (fx Ho).1 _ (pi g) j;have C:zW b (b+1) ((K,L,M),(N,O),P)=0:=by
   unfold zW;rw[if_pos g,k];unfold zX;simp only[t,cH]
  have r:=zY b (b+1) (ai _) _ m.heap.size m ((E.below i).mono i.size) (eH g) (ai _);rw[C]at r;refine r.mono ?_;rintro e w' ⟨u,a,c,rfl,h⟩;obtain⟨G,H,I,_,_,J⟩:=h.out;obtain⟨R,s,F⟩:=J rfl;rw[k]at s;obtain rfl:=aq s;obtain⟨_,v,x,_⟩:=wu (ai _) g k F t;rw[(fx v).2.2]at x;have q:=p.trans (i.mono p.size);exact⟨a,u.length,c,rfl,b,u,rfl,q.trans (G.mono q.size),H,I,v,bM _ _ _ _ _ _ x j⟩
def tm(w0:World)(s:Sy)(i a:Nat)(W:World):Prop:=∃(p:lh)(d:gf),p.b=a/\aX p s d W/\(p.room=60/\au (p.n+6) (bR p.n p.prog) 7 (bR 1 eO)=true)/\(d.k<=i*402/\d.es.length<=i*201/\d.wn<=i*201/\d.bn<=i*201)/\ag w0 W/\w0.heap.size<=p.lo
theorem Js(w0:World){a:Option Addr}{L c:Nat}{W:World}(m:xd w0 a L c W):ah 17 #[.slice a L c,.int .i64 60] W λe w'=>∃i,e=.returned (.tuple #[.pointer (some ⟨i,0,none⟩),.int .i64 0])/\Hid (tm w0 JV 0 i w'):=by
 obtain⟨k,s,rfl,d,g,n,f,o⟩:=m;refine(A8 k s a c 60 W n g.1 g.2 λ_=>eH (fx f).2.1).mono ?_;rintro e w' ⟨E,x,rfl,j⟩;obtain⟨p,q,_,r⟩:=j.out;have y:x=0:=by
  rw[p];unfold A7;rw[if_neg (by rw[f];decide),if_pos (by decide)]
 subst y;obtain⟨h,l,rfl,t,⟨z,u,A,B⟩,v,C,D,w⟩:=r rfl;exact⟨h.b,rfl,h,l,rfl,t,⟨v,bM _ _ _ _ _ _ w o⟩,⟨by omega,by rw[u];exact aB _,by omega,by omega⟩,d.trans (q.mono d.size),by have:=d.size;omega⟩
theorem aX.sound{p:lh}{s:Sy}{d:gf}{w:World}(e:aX p s d w):∀a nm cs c,s.get a=some (nm,cs,c)->(bm 13 cs=0/\aF 13 cs=true)/\∀t∈c,bm 13 t=0/\aF 13 t=true:=λa nm cs c g=>by
 obtain⟨b,k⟩:∃b,cJ d.l a=some b:=by
  have:=e.alive a;rw[g]at this;exact fY.1 this
 obtain⟨q,i,h,f,j,_⟩:=e.ps a b k;rw[g]at f;obtain⟨rfl,rfl,rfl⟩:nm=q/\cs=i/\c=h:=by simpa using f
 obtain⟨m,n,o,_⟩:=j.ok;exact⟨⟨m,n⟩,o⟩
def BE(w0:World)(V:Nat->Prop)(a:World)(s:Sy)(i c:Nat)(W:World):Prop:=∃(p:lh)(d:gf),p.b=c/\aX p s d W/\(p.room=60/\au (p.n+6) (bR p.n p.prog) 7 (bR 1 eO)=true)/\(d.k<=i*402/\d.es.length<=i*201/\d.wn<=i*201/\d.bn<=i*201)/\(ag w0 W/\w0.heap.size<=p.lo)/\(∀q,V q->q<a.heap.size/\d.ow q=0)/\bi (λq=>¬V q) a W
theorem BE.later{w0:World}{V:Nat->Prop}{d:World}{s:Sy}{i e:Nat}{W c:World}(h:BE w0 V d s i e W)(b:ag W c):BE w0 V d s i e c:=by
 obtain⟨o,f,g,j,k,l,a,m,n⟩:=h;exact⟨o,f,g,j.later b,k,l,⟨a.1.trans (b.mono a.1.size),a.2⟩,m,n.trans (aE b _) λ_ _ p=>p⟩
theorem BE.at{w0:World}{V:Nat->Prop}{c:World}{s:Sy}{i b:Nat}{W:World}(f:BE w0 V c s i b W):tm w0 s i b W:=by
 obtain⟨k,d,e,g,h,j,a,_⟩:=f;exact⟨k,d,e,g,h,j,a.1,a.2⟩
theorem tm.from{w0:World}{s:Sy}{i g:Nat}{a W:World}(l:tm w0 s i g a)(f:ag a W){V:Nat->Prop}(e:∀q,V q->a.heap.size<=q/\q<W.heap.size):BE w0 V W s i g W:=by
 obtain⟨p,b,k,c,m,n,d,o⟩:=l;refine⟨p,b,k,c.later f,m,n,⟨d.trans (f.mono d.size),o⟩,λq h=>⟨(e q h).2,?_⟩,bi.refl _ _⟩;by_cases j:b.ow q=0
 ·exact j
 ·have:=(c.low q j).2;have:=(e q h).1;omega
theorem Mp{n:Nat}{P:List (Bh (n+1))}(f:au (n+6) (bR n P) 7 (bR 1 eO)=true)(g:mZ n P=0){s:Sy}(i:∀a nm cs d,s.get a=some (nm,cs,d)->(bm 13 cs=0/\aF 13 cs=true)/\∀t∈d,bm 13 t=0/\aF 13 t=true)(h:0<=s.last/\s.last<=90)(e:Int×Int×Int×Tc){m:Nat}{x:Tm m}(b:au m x 13 e.2.2.2=true\/e.1≠3):s.do n P 60 e.1 e.2.1 e.2.2.1 m x=Hi s e:=by
 rw[Kt f g Ho i h];rcases b with b|b
 ·by_cases c:e.1=3
  ·unfold Hi;rw[c];exact Ii b s 60 e.2.1 e.2.2.1
  ·unfold Hi Sy.do;rw[if_neg c,if_neg c]
 ·unfold Hi Sy.do;rw[if_neg b,if_neg b]
theorem qO{p:lh}{s:Sy}{d f:gf}{a c B:Nat}{w w':World}(b:aX p s d w)(k:fE a c d f w w')(h:B<=p.lo):Below B w w':=by
 refine⟨k.1.os,k.1.tape,k.1.output,k.1.size,λe i=>k.1.block e ?_ λg=>?_⟩
 ·have:=b.lo.1;omega
 ·have:=(b.low e g).1;omega
theorem Li{w0:World}{V:Nat->Prop}{g:World}{s:Sy}{i l:Nat}{W:World}(y:BE w0 V g s i l W)(I:i<=100)(e:Int×Int×Int×Tc)(A:I2 (e.2.1,e.2.2.1)){m:Nat}(x:Tm (m+1))(E:In g.heap.size g (m+1) x/\bV V (m+1) x)(z:(ar (m+1) x).length<=2097152)(C:au (m+1) x 13 e.2.2.2=true\/e.1≠3):ah 8 #[.pointer (some ⟨l,0,none⟩),.agg #[.int .i64 e.1,.int .i64 e.2.1,.int .i64 e.2.2.1,.int .i64 x.1.1,.int .i64 x.1.2.1,.string x.1.2.2,.slice x.2.1.1 x.2.2.length x.2.1.2]] W λr w'=>r=.returned (.int .i64 (Hi s e).2)/\Hid (BE w0 V g (Hi s e).1 (i+1) l w'):=by
 obtain⟨F,G,rfl,d,⟨o,p⟩,J,j,f,k⟩:=y;have q:=eJ k (D:=V) (λb a n=>n a) E;have B:=Mp p d.pg.2.2.2.1 d.sound ⟨d.keys.2.2.2.1,d.keys.2.2.2.2.1⟩ e C;refine(d.do A x ⟨q.1,q.2.mono λc a=>?_⟩ z (by omega) (by omega) (by omega) (by omega)).mono ?_
 ·have:=(f c a).2;omega
 ·rintro r w' ⟨O,rfl,v⟩;obtain⟨t,w,u,h⟩:=v.out;rw[o,B]at t u;have H:=k.size;refine⟨by rw[t],F,w,rfl,u,⟨o,p⟩,?_,⟨j.1.trans (qO d h j.2),j.2⟩,λc a=>⟨(f c a).1,?_⟩,k.trans h.1 λc _ a n=>?_⟩
  ·obtain⟨_,_,K,L,M,N⟩:=h;omega
  ·rw[h.2.1 c (by have:=(f c a).1;omega)];exact(f c a).2
  ·exact a (f c n).2
def wt:(n:Nat)->Tm n->Nat
 | 0,_=>1
 | n+1,x=>1+x.1.2.2.size+(x.2.2.map λy=>wt n y).sum
theorem qy:(n:Nat)->(x:Tm n)->(ar n x).length<=wt n x
 | 0,_=>by simp[ar,wt]
 | n+1,x=>by
  have key:∀l:List (Tm n),(l.flatMap λy=>ar n y).length<=(l.map λy=>wt n y).sum:=by
   intro l
   induction l with
   | nil=>simp
   | cons y l ih=>
    have:=qy n y;simp only[bv,aY,aH,bq];omega
  have:=key x.2.2;simp only[ar,wt,aV];omega
theorem own:ownKnob Tryz.prog.godebug=none:=by kernel_rfl
theorem xN:laidOutB Tryz.prog=true:=by kernel_rfl
theorem jK:Tryz.prog.cellsOf 30=4:=by kernel_rfl
theorem tC:Tryz.prog.cellsOf 3=1:=by kernel_rfl
theorem kK:Tryz.prog.cellsOf 9=1:=by kernel_rfl
theorem BS:Tryz.prog.cellsOf 28=1:=by kernel_rfl
theorem xQ{f:Type}{P:Nat->f->Prop}:(len:Nat)->(∀i,i<len->∃y,P i y)->∃l:List f,l.length=len/\∀i y,l[i]?=some y->P i y
 | 0,_=>⟨[],rfl,λi y b=>by simp at b⟩
 | len+1,b=>by
  obtain⟨l,j,k⟩:=xQ len (λi d=>b i (by omega));obtain⟨e,m⟩:=b len (by omega);refine⟨l++ [e],by simp[j],λi y a=>?_⟩;by_cases d:i<l.length
  ·rw[de d]at a;exact k i y a
  ·rw[dZ (by omega)]at a;have c:i-l.length=0:=by
    by_cases c:i-l.length=0
    ·exact c
    ·rw[ed (by simp;omega)]at a;cases a
   rw[c]at a;have g:e=y:=by simpa using a
   have h:i=len:=by omega
   rw[h,<-g];exact m
theorem LQ{H:Type}{n:Nat}:(p:List (Tm n))->(es:List (DataW H))->(∀(i:Nat)(y:Tm n)(e:DataW H),p[i]?=some y->es[i]?=some e->wt n y<=Rows.uptoBulk e)->p.length=es.length->(p.map λy=>wt n y).sum<=Rows.uptoBulkAll es
 | [],es,_,h=>by simp
 | y::p,[],_,h=>by simp at h
 | y::p,e::es,hp,h=>by
  have f:=hp 0 y e (by simp) (by simp);have g:=LQ p es (λi d a c b=>hp (i+1) d a (by simpa using c) (by simpa using b)) (by simpa using h);simp only[aH,bq,Rows.uptoBulkAll];omega
theorem DB(b o i j:Nat):((⟨b,o,none⟩:Addr).add i).add j=⟨b,o+i+j,none⟩:=by
 unfold Addr.add;split<;>split<;>simp_all
theorem wL{w:World}{a:Addr}{v:Value}(c:w.cell? ((a.add 0).add 0)=some v):a=⟨a.block,a.off,none⟩:=by
 have d:(a.add 0).add 0=a:=rfl;rw[d]at c;unfold World.cell? at c;split at c
 ·split at c
  ·cases c
  ·rename_i e;cases a with
   | mk b o f=>cases f with
    | none=>rfl
    | some g=>simp at e
 ·cases c
theorem yN{k:Int}(a:(Lit.int .i64 k).wf=true):dh k:=by
 have: -9223372036854775808<=k/\k<=9223372036854775807:=by simpa [Lit.wf,IntKind.min,IntKind.max,IntKind.signed,IntKind.bits]using a
 exact this
theorem Lm{H:Type}(enc:TypeId×Value->H)(w:World)(p:Nat->Bool):(n f:Nat)->f<=2*n+1->(cs:List Value)->(x:DataW H×List MemPlace)-> DataW.trod enc Tryz.prog w 0 p true f 30 cs=some x-> ∃t:Tm (n+1),cs=[.int .i64 t.1.1,.int .i64 t.1.2.1,.string t.1.2.2,.slice t.2.1.1 t.2.2.length t.2.1.2]/\In w.heap.size w (n+1) t/\wt (n+1) t<=Rows.uptoBulk x.1:=by
 intro n
 induction n with
 | zero=>
  intro f an cs x l;obtain⟨h,m,rfl,rfl,I,K,q⟩:=iC Tryz.underlying30 l;have u:DataW.trod enc Tryz.prog w 0 p true m 3 ((cs.drop 0).take (Tryz.prog.cellsOf 3))=h[0]? :=q 0 _ rfl;obtain rfl:m=0:=by omega
  have aG:h.length=4:=K;rw[aD (by omega)]at u;cases u
 | succ n ih=>
  intro f an cs x l;obtain⟨h,m,rfl,rfl,I,K,q⟩:=iC Tryz.underlying30 l;have u:DataW.trod enc Tryz.prog w 0 p true m 3 ((cs.drop 0).take (Tryz.prog.cellsOf 3))=h[0]? :=q 0 _ rfl;have R:DataW.trod enc Tryz.prog w 0 p true m 3 ((cs.drop 1).take (Tryz.prog.cellsOf 3))=h[1]? :=q 1 _ rfl;have S:DataW.trod enc Tryz.prog w 0 p true m 9 ((cs.drop 2).take (Tryz.prog.cellsOf 9))=h[2]? :=q 2 _ rfl;have T:DataW.trod enc Tryz.prog w 0 p true m 28 ((cs.drop 3).take (Tryz.prog.cellsOf 28))=h[3]? :=q 3 _ rfl;rw[tC]at u R;rw[kK]at S;rw[BS]at T;rw[jK]at I;obtain⟨d,i,j,e,rfl⟩:∃d i j e,cs=[d,i,j,e]:=by
   match cs,I with
   | [d,i,j,e],_=>exact⟨d,i,j,e,rfl⟩
  obtain⟨y0,y1,y2,y,rfl⟩:∃y0 y1 y2 y,h=[y0,y1,y2,y]:=by
   match h,K with
   | [y0,y1,y2,y],_=>exact⟨y0,y1,y2,y,rfl⟩
  obtain⟨k,O,av,Y⟩:=iB Tryz.underlying3 (x:=y0) (by simpa using u);obtain⟨X,P,aw,Z⟩:=iB Tryz.underlying3 (x:=y1) (by simpa using R);obtain⟨r,Q,ax,aa⟩:=ot Tryz.underlying9 (x:=y2) (by simpa using S);have ag:DataW.trod enc Tryz.prog w 0 p true m 28 [e]=some y:=by simpa using T
  simp at O P Q;subst O P Q av aw ax;rcases DataW.trod_slice Tryz.underlying28 ag with⟨s,rfl⟩|⟨a,len,cap,D,aJ,au,rfl,s,rfl,_,aA,ak,az,E,_,_⟩
  ·simp at s;subst s;refine⟨((k,X,r),(none,0),[]),rfl,⟨⟨yN Y,yN Z,aa,ai _,aB _⟩,ae rfl⟩,?_⟩;have es:r.data.toList.length=r.size:=by rw[gS];rfl
   simp only[wt,Rows.uptoBulk,Rows.uptoBulkAll,aH,bS,je];omega
  ·simp at s;subst s;simp only[jK]at E;have key:∀c,c<len->∃t:Tm (n+1),(∃b o,a=⟨b,o,none⟩/\b<w.heap.size/\dy w b (o+c*4) (n+1) t)/\In w.heap.size w (n+1) t/\∀g,(D.map (·.1))[c]?=some g->wt (n+1) t<=Rows.uptoBulk g:=by
    intro c ap;have V:=E c ap;have W:=E 0 (by omega);rw[aD (by omega)]at V W;obtain⟨ab,al,ar⟩:=bj.1 V;obtain⟨ad,am,aF⟩:=bj.1 W;obtain⟨_,aC,z⟩:=oF al;obtain⟨_,aE,aj⟩:=oF am;obtain⟨t,rfl,G,F⟩:=ih au (by omega) ab _ ar;have U:=wL (w:=w) (a:=a) (v:=ad[0]'(by omega)) (by have:=aj 0 (by omega);rw[aD (by omega)]at this;simpa using this);have ah:∀C,(a.add (c*4)).add C=⟨a.block,a.off+c*4+C,none⟩:=λC=>by
     have:=DB a.block a.off (c*4) C;rw[<-U]at this;exact this
    have d:=z 0 (by omega);have i:=z 1 (by omega);have j:=z 2 (by omega);have e:=z 3 (by omega);rw[ah]at d i j e;simp at d i j e;refine⟨t,⟨a.block,a.off,U,jj w ⟨a.block,a.off+c*4,none⟩ d,d,i,j,e⟩,G,λg A=>?_⟩;rw[dj,aD (by omega)]at A;have:(D[c]).1=g:=by simpa using A
    rw[<-this];exact F
   obtain⟨M,B,J⟩:=xQ len key;refine⟨((k,X,r),(some a,cap),M),by simp[B],⟨⟨yN Y,yN Z,aa,by simp only;omega,ak⟩,?_⟩,?_⟩
   ·rcases Nat.eq_zero_or_pos len with l|l
    ·exact ae (bD (B.trans l))
    ·obtain⟨⟨b,o,rfl,F,_⟩,_,_⟩:=J 0 (M[0]'(by rw[B];exact l)) (aD (by rw[B];exact l));refine af ⟨b,o,rfl,F,λc N L=>?_⟩;obtain⟨⟨ay,aI,g,_,ao⟩,G,_⟩:=J c N L;simp at g;obtain⟨rfl,rfl⟩:=g;exact⟨ao,G⟩
   ·have aq:=LQ M (D.map (·.1)) (λc N g L A=>(J c N L).2.2 g A) (by simp;omega);have es:r.data.toList.length=r.size:=by rw[gS];rfl
    simp only[wt,Rows.uptoBulk,Rows.uptoBulkAll,aH,bS]at aq ⊢;omega
def LO(n:Nat)(a:Ac n):Nat:=wt n a.2.1.1+wt n a.2.1.2+a.2.2.1.size+1
def LP(n:Nat)(c:Cl n):Nat:=wt n c.1.1+wt n c.1.2.1+wt n c.1.2.2+(c.2.2.map (LO n)).sum+1
def JX(n:Nat)(b:Bh n):Nat:=b.1.size+(b.2.2.map (LP n)).sum+1
theorem zo:Tryz.prog.cellsOf 224=11:=by kernel_rfl
theorem rT:Tryz.prog.cellsOf 147=13:=by kernel_rfl
theorem zq:Tryz.prog.cellsOf 138=2:=by kernel_rfl
theorem EI:Tryz.prog.cellsOf 145=1:=by kernel_rfl
theorem xt:Tryz.prog.cellsOf 136=1:=by kernel_rfl
theorem Ec{a H:Type}(g:a->Nat):(p:List a)->(es:List (DataW H))->(∀(i:Nat)(y:a)(e:DataW H),p[i]?=some y->es[i]?=some e->g y<=Rows.uptoBulk e)->p.length=es.length->(p.map g).sum<=Rows.uptoBulkAll es
 | [],es,_,h=>by simp
 | y::p,[],_,h=>by simp at h
 | y::p,e::es,hp,h=>by
  have j:=hp 0 y e (by simp) (by simp);have k:=Ec g p es (λi f b d c=>hp (i+1) f b (by simpa using d) (by simpa using c)) (by simpa using h);simp only[aH,bq,Rows.uptoBulkAll];omega
theorem uF{H q:Type}(enc:TypeId×Value->H)(w:World)(L:Nat->Bool)(k:Nat)(f:q->List Value)(r:q->Prop)(g:q->Nat)(T S:TypeId)(P:Tryz.prog.underlying S=some (.slice T))(ab:Tryz.prog.cellsOf T=k)(am:0<k)(K:∀y,(f y).length=k)(D:Nat)(O:∀(m:Nat)(cs:List Value)(x:DataW H×List MemPlace),m<=D->DataW.trod enc Tryz.prog w 0 L true m T cs=some x->∃y,cs=f y/\r y/\g y<=Rows.uptoBulk x.1)(m:Nat)(aq:m<=D)(v:Value)(x:DataW H×List MemPlace)(j:DataW.trod enc Tryz.prog w 0 L true m S [v]=some x):∃a l c,v=.slice a l.length c/\l.length<=c/\c<=maxLen/\pe w.heap.size w k f r a l/\(l.map g).sum+1<=Rows.uptoBulk x.1:=by
 rcases DataW.trod_slice P j with⟨d,rfl⟩|⟨a,len,cap,s,aw,ah,rfl,d,rfl,_,ap,V,al,t,_,_⟩
 ·simp at d;subst d;exact⟨none,[],0,rfl,ai _,aB _,ae rfl,by simp[Rows.uptoBulk]⟩
 ·simp at d;subst d;simp only[ab]at t;have key:∀e,e<len->∃y:q,(∃b o,a=⟨b,o,none⟩/\b<w.heap.size/\∀(h:Nat)(i:Value),(f y)[h]?=some i->w.cell? ⟨b,o+e*k+h,none⟩=some i)/\r y/\∀d,(s.map (·.1))[e]?=some d->g y<=Rows.uptoBulk d:=by
   intro e Z;have G:=t e Z;have I:=t 0 (by omega);rw[aD (by omega)]at G I;obtain⟨M,W,ad⟩:=bj.1 G;obtain⟨N,X,au⟩:=bj.1 I;obtain⟨_,an,R⟩:=oF W;obtain⟨_,ao,U⟩:=oF X;obtain⟨y,rfl,z,u⟩:=O ah M _ (by omega) ad;have E:=wL (w:=w) (a:=a) (v:=N[0]'(by omega)) (by have:=U 0 (by omega);rw[aD (by omega)]at this;simpa using this);have Q:∀h,(a.add (e*k)).add h=⟨a.block,a.off+e*k+h,none⟩:=λh=>by
    have:=DB a.block a.off (e*k) h;rw[<-E]at this;exact this
   have F:∀(h:Nat)(i:Value),(f y)[h]?=some i->w.cell? ⟨a.block,a.off+e*k+h,none⟩=some i:=λh i J=>by
    have aa:=(aL.1 J).1;have:=R h (by rw[K]at aa;omega);rw[Q,J]at this;exact this
   obtain⟨aj,ag⟩:∃i,(f y)[0]?=some i:=⟨(f y)[0]'(by rw[K];omega),aD _⟩;refine⟨y,⟨a.block,a.off,E,jj w ⟨a.block,a.off+e*k+0,none⟩ (F 0 aj ag),F⟩,z,λd n=>?_⟩;rw[dj,aD (by omega)]at n;have:(s[e]).1=d:=by simpa using n
   rw[<-this];exact u
  obtain⟨C,p,A⟩:=xQ len key;refine⟨some a,C,cap,by rw[p],by omega,V,?_,?_⟩
  ·rcases Nat.eq_zero_or_pos len with j|j
   ·exact ae (bD (p.trans j))
   ·obtain⟨⟨b,o,rfl,u,_⟩,_,_⟩:=A 0 (C[0]'(by rw[p];exact j)) (aD (by rw[p];exact j));refine af ⟨b,o,rfl,u,λe y B=>?_⟩;obtain⟨⟨ak,av,d,_,Y⟩,z,_⟩:=A e y B;simp at d;obtain⟨rfl,rfl⟩:=d;exact⟨Y,z⟩
  ·have ar:=Ec g C (s.map (·.1)) (λe y d B n=>(A e y B).2.2 d n) (by simp;omega);simp only[Rows.uptoBulk];omega
theorem mJ{H:Type}(enc:TypeId×Value->H)(w:World)(a:Nat->Bool)(n m:Nat)(f:m<=n)(cs:List Value)(x:DataW H×List MemPlace)(b:DataW.trod enc Tryz.prog w 0 a true m 30 cs=some x):∃t:Tm (n+1),cs=gR (n+1) t/\In w.heap.size w (n+1) t/\wt (n+1) t<=Rows.uptoBulk x.1:=by
 obtain⟨t,c,d,e⟩:=Lm enc w a n m (by omega) cs x b;exact⟨t,c,d,e⟩
theorem Mf{H:Type}(enc:TypeId×Value->H)(w:World)(b:Nat->Bool)(n m:Nat)(Y:m<=n)(cs:List Value)(x:DataW H×List MemPlace)(M:DataW.trod enc Tryz.prog w 0 b true m 224 cs=some x):∃a:Ac (n+1),cs=fM (n+1) a/\gZ (n+1) w.heap.size w a/\LO (n+1) a<=Rows.uptoBulk x.1:=by
 obtain⟨c,m,rfl,rfl,G,N,o⟩:=iC Tryz.underlying224 M;have B:DataW.trod enc Tryz.prog w 0 b true m 3 ((cs.drop 0).take (Tryz.prog.cellsOf 3))=c[0]? :=o 0 _ rfl;have C:DataW.trod enc Tryz.prog w 0 b true m 30 ((cs.drop 1).take (Tryz.prog.cellsOf 30))=c[1]? :=o 1 _ rfl;have D:DataW.trod enc Tryz.prog w 0 b true m 30 ((cs.drop 5).take (Tryz.prog.cellsOf 30))=c[2]? :=o 2 _ rfl;have E:DataW.trod enc Tryz.prog w 0 b true m 9 ((cs.drop 9).take (Tryz.prog.cellsOf 9))=c[3]? :=o 3 _ rfl;have F:DataW.trod enc Tryz.prog w 0 b true m 3 ((cs.drop 10).take (Tryz.prog.cellsOf 3))=c[4]? :=o 4 _ rfl;rw[tC]at B F;rw[jK]at C D;rw[kK]at E;rw[zo]at G;obtain⟨r,d,e,f,g,h,i,j,l,u,s,rfl⟩:∃r d e f g h i j l u s,cs=[r,d,e,f,g,h,i,j,l,u,s]:=by
  match cs,G with
  | [r,d,e,f,g,h,i,j,l,u,s],_=>exact⟨r,d,e,f,g,h,i,j,l,u,s,rfl⟩
 obtain⟨y0,y1,y2,p,q,rfl⟩:∃y0 y1 y2 p q,c=[y0,y1,y2,p,q]:=by
  match c,N with
  | [y0,y1,y2,p,q],_=>exact⟨y0,y1,y2,p,q,rfl⟩
 obtain⟨k,y,T,Q⟩:=iB Tryz.underlying3 (x:=y0) (by simpa using B);obtain⟨J,A,V,S⟩:=iB Tryz.underlying3 (x:=q) (by simpa using F);obtain⟨v,z,U,R⟩:=ot Tryz.underlying9 (x:=p) (by simpa using E);obtain⟨t,K,O,W⟩:=mJ enc w b n m (by omega) [d,e,f,g] y1 (by simpa using C);obtain⟨I,L,P,X⟩:=mJ enc w b n m (by omega) [h,i,j,l] y2 (by simpa using D);simp at y z A;subst y z A T U V;refine⟨(k,(t,I),(v,J)),?_,⟨yN Q,O,P,R,yN S⟩,?_⟩
 ·show _=.int .i64 k::(gR (n+1) t++gR (n+1) I++ [.string v,.int .i64 J]);rw[<-K,<-L];rfl
 ·have es:v.data.toList.length=v.size:=by rw[gS];rfl
  simp only[LO,Rows.uptoBulk,Rows.uptoBulkAll,aH,bS];omega
theorem EK{H:Type}(enc:TypeId×Value->H)(w:World)(b:Nat->Bool)(n m:Nat)(F:m<=n)(cs:List Value)(x:DataW H×List MemPlace)(z:DataW.trod enc Tryz.prog w 0 b true m 147 cs=some x):∃a:Cl (n+1),cs=eE (n+1) a/\gE (n+1) w.heap.size w a/\LP (n+1) a<=Rows.uptoBulk x.1:=by
 obtain⟨d,m,rfl,rfl,E,Q,y⟩:=iC Tryz.underlying147 z;have A:DataW.trod enc Tryz.prog w 0 b true m 30 ((cs.drop 0).take (Tryz.prog.cellsOf 30))=d[0]? :=y 0 _ rfl;have B:DataW.trod enc Tryz.prog w 0 b true m 30 ((cs.drop 4).take (Tryz.prog.cellsOf 30))=d[1]? :=y 1 _ rfl;have C:DataW.trod enc Tryz.prog w 0 b true m 145 ((cs.drop 8).take (Tryz.prog.cellsOf 145))=d[2]? :=y 2 _ rfl;have D:DataW.trod enc Tryz.prog w 0 b true m 30 ((cs.drop 9).take (Tryz.prog.cellsOf 30))=d[3]? :=y 3 _ rfl;rw[jK]at A B D;rw[EI]at C;rw[rT]at E;obtain⟨e,f,j,k,o,p,q,r,s,u,g,h,i,rfl⟩:∃e f j k o p q r s u g h i,cs=[e,f,j,k,o,p,q,r,s,u,g,h,i]:=by
  match cs,E with
  | [e,f,j,k,o,p,q,r,s,u,g,h,i],_=>exact⟨e,f,j,k,o,p,q,r,s,u,g,h,i,rfl⟩
 obtain⟨y0,y1,y2,v,rfl⟩:∃y0 y1 y2 v,d=[y0,y1,y2,v]:=by
  match d,Q with
  | [y0,y1,y2,v],_=>exact⟨y0,y1,y2,v,rfl⟩
 obtain⟨t,J,R,U⟩:=mJ enc w b n m (by omega) [e,f,j,k] y0 (by simpa using A);obtain⟨G,K,S,V⟩:=mJ enc w b n m (by omega) [o,p,q,r] y1 (by simpa using B);obtain⟨I,M,T,W⟩:=mJ enc w b n m (by omega) [u,g,h,i] v (by simpa using D);obtain⟨a,l,c,L,O,N,P,X⟩:=uF enc w b 11 (fM (n+1)) (gZ (n+1) w.heap.size w) (LO (n+1)) 224 145 Tryz.underlying145 zo (by omega) (λ_=>rfl) n (λm cs x F z=>Mf enc w b n m F cs x z) m (by omega) s y2 (by simpa using C);subst L;refine⟨((t,G,I),(a,c),l),?_,⟨⟨R,S,T⟩,⟨O,N⟩,P⟩,?_⟩
 ·show _=gR (n+1) t++gR (n+1) G++(.slice a l.length c::gR (n+1) I);rw[<-J,<-K,<-M];rfl
 ·simp only[LP,Rows.uptoBulk,Rows.uptoBulkAll,aH,bS];omega
theorem Mj{H:Type}(enc:TypeId×Value->H)(w:World)(d:Nat->Bool)(n m:Nat)(q:m<=n)(cs:List Value)(x:DataW H×List MemPlace)(g:DataW.trod enc Tryz.prog w 0 d true m 138 cs=some x):∃a:Bh (n+1),cs=oM (n+1) a/\oJ (n+1) w.heap.size w a/\JX (n+1) a<=Rows.uptoBulk x.1:=by
 obtain⟨f,m,rfl,rfl,p,v,o⟩:=iC Tryz.underlying138 g;have j:DataW.trod enc Tryz.prog w 0 d true m 9 ((cs.drop 0).take (Tryz.prog.cellsOf 9))=f[0]? :=o 0 _ rfl;have k:DataW.trod enc Tryz.prog w 0 d true m 136 ((cs.drop 1).take (Tryz.prog.cellsOf 136))=f[1]? :=o 1 _ rfl;rw[kK]at j;rw[xt]at k;rw[zq]at p;obtain⟨e,b,rfl⟩:∃e b,cs=[e,b]:=by
  match cs,p with
  | [e,b],_=>exact⟨e,b,rfl⟩
 obtain⟨y0,y1,rfl⟩:∃y0 y1,f=[y0,y1]:=by
  match f,v with
  | [y0,y1],_=>exact⟨y0,y1,rfl⟩
 obtain⟨h,i,z,y⟩:=ot Tryz.underlying9 (x:=y0) (by simpa using j);obtain⟨a,l,c,r,t,s,u,A⟩:=uF enc w d 13 (eE (n+1)) (gE (n+1) w.heap.size w) (LP (n+1)) 147 136 Tryz.underlying136 rT (by omega) (λ_=>rfl) n (λm cs x q g=>EK enc w d n m q cs x g) m (by omega) b y1 (by simpa using k);simp at i;subst i z r;refine⟨(h,(a,c),l),rfl,⟨y,⟨t,s⟩,u⟩,?_⟩;have es:h.data.toList.length=h.size:=by rw[gS];rfl
 simp only[JX,Rows.uptoBulk,Rows.uptoBulkAll,aH,bS];omega
theorem FG{H:Type}{enc:TypeId×Value->H}{W:World}{r:Reach}{g:Nat}{v:Value}{d:DataW H}{p:List MemPlace}(u:Value.okWide Tryz.prog W r g 22 v)(b:DataW.Trod enc Tryz.prog W 0 (λ_=>true) true 22 v d p):∃n,∃l:List (Bh (n+1)),∃a c,v=.slice a l.length c/\l.length<=c/\c<=maxLen/\gF (n+1) W.heap.size W a l/\(l.map (JX (n+1))).sum<=Rows.uptoBulk d:=by
 obtain⟨a,len,cap,rfl⟩:=okWide_slice Tryz.underlying22 u;obtain⟨f,q⟩:=b;have s:DataW.trod enc Tryz.prog W 0 (λ_=>true) true f 22 [.slice a len cap]=some (d,p):=q;obtain⟨e,l,c,i,j,k,m,o⟩:=uF enc W (λ_=>true) 2 (oM (f+1)) (oJ (f+1) W.heap.size W) (JX (f+1)) 138 22 Tryz.underlying22 zq (by omega) (λ_=>rfl) f (λw h x t b=>Mj enc W _ f w t h x b) f (ai _) _ _ s;exact⟨f,l,e,c,i,j,k,m,by simp only at o;omega⟩
end Go.Proofs.YtckamaoibonjcaaGreat
