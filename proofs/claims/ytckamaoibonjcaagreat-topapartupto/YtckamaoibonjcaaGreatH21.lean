/- What is proved here: plain facts and contracts that the claimed theorem stands on. No condition but those that each names. -/
import Derived.Test.YtckamaoibonjcaaGreatH20
namespace Go.Proofs.YtckamaoibonjcaaGreat
open Go.RowKit
set_option maxHeartbeats 2000000
set_option maxRecDepth 100000
def mx(N:Nat)(x:Tm N)(w:World)(e:Ending)(w':World):Prop:=∃y:Tm N,e=.returned (df N y)/\Hid (ai w w'/\In w'.heap.size w' N y/\bZ (λq=>w.heap.size<=q) N y/\aw N y N x=true)
theorem Gj(P N:Nat)(x:Tm (N+1))(v:Wd)(w:World)(K:Hid (∀w1,ai w w1->ak 68 #[.pointer (some ⟨P,1,none⟩),.agg #[ab v.1,ab v.2]] w1 λe w'=>∃y:Tm (N+1),e=.returned (.tuple #[.agg #[ab y.1.1,ab y.1.2.1,ae y.1.2.2,.slice y.2.1.1 y.2.2.length y.2.1.2],ab 0])/\Hid (ai w1 w'/\In w'.heap.size w' (N+1) y/\bZ (λq=>w1.heap.size<=q) (N+1) y/\aw (N+1) y (N+1) x=true))):ak 42 #[.pointer (some ⟨P,0,none⟩),.agg #[ab v.1,ab v.2]] w (mx (N+1) x w):=by
 go_enter Tryz.func42,Tryz.ntmps42;go_wp2_with fail;have B:=ao (jI w (.cells #[ab v.1,ab v.2] 105) (.cells #[ab 0,ab 0,ae ⟨#[]⟩,.slice none 0 0] 30));have f:Hid (ai w ((w.alloc (.cells #[ab v.1,ab v.2] 105)).alloc (.cells #[ab 0,ab 0,ae ⟨#[]⟩,.slice none 0 0] 30))/\((w.alloc (.cells #[ab v.1,ab v.2] 105)).alloc (.cells #[ab 0,ab 0,ae ⟨#[]⟩,.slice none 0 0] 30)).heap.size=w.heap.size+1+1):=⟨by go_grown,by simp⟩;generalize M:(w.alloc _).alloc _=a;rw[M]at B f;clear M;have T:a.heap.size=w.heap.size+1+1:=f.out.2;have p:Hid (∀w',ai a w'->w'.cell? ⟨w.heap.size,0,none⟩=some (ab v.1)/\w'.cell? ⟨w.heap.size,1,none⟩=some (ab v.2)):=λw' S=>by
  have L:=(S.block w.heap.size (by omega)).trans B.out.1;exact⟨aq L 0,aq L 1⟩
 obtain⟨an,ap⟩:=p.out a (am _ _);have z:Hid (ai a a.drew):=(am _ _).drew;have A:Hid (ai a (a.alloc (.cells #[ab 0,ab 0,ae ⟨#[]⟩,.slice none 0 0] 30)).drew):=(show Below _ _ _ by go_grown);have F:Hid ((a.alloc (.cells #[ab 0,ab 0,ae ⟨#[]⟩,.slice none 0 0] 30)).drew.heap[a.heap.size]?=some (.cells #[ab 0,ab 0,ae ⟨#[]⟩,.slice none 0 0] 30)/\(a.alloc (.cells #[ab 0,ab 0,ae ⟨#[]⟩,.slice none 0 0] 30)).drew.heap.size=a.heap.size+1):=⟨qC a _ rfl,by simp⟩;clear T
 go_region_held3 (λw'=>w'.cell? ⟨w.heap.size,0,none⟩=some (ab v.1)/\w'.cell? ⟨w.heap.size,1,none⟩=some (ab v.2)) (first|(go_keep;done)|with_reducible exact p.out _ z.out|with_reducible exact p.out _ A.out|exact p.out _ h.out|exact E.out _|exact Q.out _ _ _ _|exact R.out _ _ _ _ _)
  ((first
   | (go_at_call 68;refine(K.out _ (f.out.1.trans (z.out.mono f.out.1.size))).mono ?_;rintro e w1 ⟨y,rfl,l⟩;have h:=ao (z.out.trans (l.out.1.mono z.out.size));have E:Hid (∀o:Obj,(w1.alloc o).cell? ⟨w.heap.size,0,none⟩=some (ab v.1)/\(w1.alloc o).cell? ⟨w.heap.size,1,none⟩=some (ab v.2)):=λo=>p.out _ (h.out.trans (aK.mono h.out.size));have R:Hid (∀(o:Obj)(m b c n:Value),(cG (w1.alloc o) w1.heap.size 0 m b c n).cell? ⟨w.heap.size,0,none⟩=some (ab v.1)/\(cG (w1.alloc o) w1.heap.size 0 m b c n).cell? ⟨w.heap.size,1,none⟩=some (ab v.2)):=λo m b c n=>by have al:=h.out.size;have D:=f.out.2;exact⟨(bm (aT (by omega) m b c n) 0).trans (E.out o).1,(bm (aT (by omega) m b c n) 1).trans (E.out o).2⟩)
   | (go_at_call 68;refine(K.out _ (f.out.1.trans (A.out.mono f.out.1.size))).mono ?_;rintro e w1 ⟨y,rfl,l⟩;have h:=ao (A.out.trans (l.out.1.mono A.out.size));have r:=ao ((l.out.1.block _ (by have:=F.out.2;omega)).trans F.out.1);have ad:w1.cell? ⟨a.heap.size,0,none⟩=some (ab 0):=aq r.out 0;have af:w1.cell? ⟨a.heap.size,1,none⟩=some (ab 0):=aq r.out 1;have ag:w1.cell? ⟨a.heap.size,2,none⟩=some (ae ⟨#[]⟩):=aq r.out 2;have ah:w1.cell? ⟨a.heap.size,3,none⟩=some (.slice none 0 0):=aq r.out 3;have aj:=λu=>cO r.out u;have Q:Hid (∀m b c n:Value,(cG w1 a.heap.size 0 m b c n).cell? ⟨w.heap.size,0,none⟩=some (ab v.1)/\(cG w1 a.heap.size 0 m b c n).cell? ⟨w.heap.size,1,none⟩=some (ab v.2)):=λm b c n=>⟨(bm (aT (by have:=f.out.2;omega) m b c n) 0).trans (p.out _ h.out).1,(bm (aT (by have:=f.out.2;omega) m b c n) 1).trans (p.out _ h.out).2⟩)))
 ·have D:=f.out.2;have i:Hid ((w1.alloc (.cells #[ab y.1.1,ab y.1.2.1,ae y.1.2.2,.slice y.2.1.1 y.2.2.length y.2.1.2] 30)).heap[w.heap.size+1]?=some (.cells #[ab 0,ab 0,ae ⟨#[]⟩,.slice none 0 0] 30)):=(aK.block _ (by have:=h.out.size;omega)).trans ((h.out.block _ (by omega)).trans B.out.2);have k:Hid ((w1.alloc (.cells #[ab y.1.1,ab y.1.2.1,ae y.1.2.2,.slice y.2.1.1 y.2.2.length y.2.1.2] 30)).heap[w1.heap.size]?=some (.cells #[ab y.1.1,ab y.1.2.1,ae y.1.2.2,.slice y.2.1.1 y.2.2.length y.2.1.2] 30)):=az _ _;have j:Hid (ai w (w1.alloc (.cells #[ab y.1.1,ab y.1.2.1,ae y.1.2.2,.slice y.2.1.1 y.2.2.length y.2.1.2] 30))/\In (w1.alloc (.cells #[ab y.1.1,ab y.1.2.1,ae y.1.2.2,.slice y.2.1.1 y.2.2.length y.2.1.2] 30)).heap.size (w1.alloc (.cells #[ab y.1.1,ab y.1.2.1,ae y.1.2.2,.slice y.2.1.1 y.2.2.length y.2.1.2] 30)) (N+1) y/\bZ (λq=>w.heap.size+2<=q) (N+1) y):=⟨(f.out.1.trans (h.out.mono f.out.1.size)).trans (aK.mono (f.out.1.trans (h.out.mono f.out.1.size)).size),(l.out.2.1.below aK).mono (by simp),l.out.2.2.1.mono λq (C:a.heap.size<=q)=>by omega⟩;have s:Hid (∃d,d=(w1.alloc (.cells #[ab y.1.1,ab y.1.2.1,ae y.1.2.2,.slice y.2.1.1 y.2.2.length y.2.1.2] 30))):=⟨_,rfl⟩;obtain⟨d,t⟩:=s.out;rw[<-t]at i k j ⊢;clear t s D;have G:d.cell? ⟨w.heap.size+1,0,none⟩=some (ab 0):=aq i.out 0;have H:d.cell? ⟨w.heap.size+1,1,none⟩=some (ab 0):=aq i.out 1;have I:d.cell? ⟨w.heap.size+1,2,none⟩=some (ae ⟨#[]⟩):=aq i.out 2;have J:d.cell? ⟨w.heap.size+1,3,none⟩=some (.slice none 0 0):=aq i.out 3;have Z:=λu=>cO i.out u;have V:d.cell? ⟨w1.heap.size,0,none⟩=some (ab y.1.1):=aq k.out 0;have W:d.cell? ⟨w1.heap.size,1,none⟩=some (ab y.1.2.1):=aq k.out 1;have X:d.cell? ⟨w1.heap.size,2,none⟩=some (ae y.1.2.2):=aq k.out 2;have Y:d.cell? ⟨w1.heap.size,3,none⟩=some (.slice y.2.1.1 y.2.2.length y.2.1.2):=aq k.out 3;go_wp2_with fail;refine ar (v:=.agg #[ab y.1.1,ab y.1.2.1,ae y.1.2.2,.slice y.2.1.1 y.2.2.length y.2.1.2]) (by simp[results,Tryz.results42,go_sem,G,H,I,J]) rfl ?_;refine⟨y,rfl,dp j.out.1 (by omega),?_,j.out.2.2.mono λq C=>by omega,l.out.2.2.2⟩;have e:=In.off (w':=cG d (w.heap.size+1) 0 (ab y.1.1) (ab y.1.2.1) (ae y.1.2.2) (.slice y.2.1.1 y.2.2.length y.2.1.2)) (λb (O:w.heap.size+2<=b)=>aT (by omega) _ _ _ _) j.out.2.2 j.out.2.1;rw[<-bj (w:=d) (g:=w.heap.size+1) (o:=0) (ab y.1.1) (ab y.1.2.1) (ae y.1.2.2) (.slice y.2.1.1 y.2.2.length y.2.1.2)]at e;exact e
 ·have D:=f.out.2;have U:=F.out.2;have i:Hid ((cG w1 a.heap.size 0 (ab y.1.1) (ab y.1.2.1) (ae y.1.2.2) (.slice y.2.1.1 y.2.2.length y.2.1.2)).heap[w.heap.size+1]?=some (.cells #[ab 0,ab 0,ae ⟨#[]⟩,.slice none 0 0] 30)):=(aT (by omega) _ _ _ _).trans ((h.out.block _ (by omega)).trans B.out.2)
  have k:Hid ((cG w1 a.heap.size 0 (ab y.1.1) (ab y.1.2.1) (ae y.1.2.2) (.slice y.2.1.1 y.2.2.length y.2.1.2)).heap[a.heap.size]?=some (.cells #[ab y.1.1,ab y.1.2.1,ae y.1.2.2,.slice y.2.1.1 y.2.2.length y.2.1.2] 30)):=(by
   show _=_
   simp[cG,World.setCell,bG,r.out])
  have j:Hid (ai w (cG w1 a.heap.size 0 (ab y.1.1) (ab y.1.2.1) (ae y.1.2.2) (.slice y.2.1.1 y.2.2.length y.2.1.2))/\In (cG w1 a.heap.size 0 (ab y.1.1) (ab y.1.2.1) (ae y.1.2.2) (.slice y.2.1.1 y.2.2.length y.2.1.2)).heap.size (cG w1 a.heap.size 0 (ab y.1.1) (ab y.1.2.1) (ae y.1.2.2) (.slice y.2.1.1 y.2.2.length y.2.1.2)) (N+1) y/\bZ (λq=>w.heap.size+2<=q) (N+1) y):=by
   refine⟨dp (f.out.1.trans (h.out.mono f.out.1.size)) (by omega),?_,l.out.2.2.1.mono λq C=>?_⟩
   ·rw[bj];exact In.off (λb (O:(a.alloc (.cells #[ab 0,ab 0,ae ⟨#[]⟩,.slice none 0 0] 30)).drew.heap.size<=b)=>aT (by omega) _ _ _ _) l.out.2.2.1 l.out.2.1
   ·have aa:(a.alloc (.cells #[ab 0,ab 0,ae ⟨#[]⟩,.slice none 0 0] 30)).drew.heap.size<=q:=C;omega
  have s:Hid (∃d,d=(cG w1 a.heap.size 0 (ab y.1.1) (ab y.1.2.1) (ae y.1.2.2) (.slice y.2.1.1 y.2.2.length y.2.1.2))):=⟨_,rfl⟩;obtain⟨d,t⟩:=s.out;change Exit.then _ _ Exit.normal _ (cG w1 a.heap.size 0 (ab y.1.1) (ab y.1.2.1) (ae y.1.2.2) (.slice y.2.1.1 y.2.2.length y.2.1.2));rw[<-t]at i k j ⊢;clear t s D U;have G:d.cell? ⟨w.heap.size+1,0,none⟩=some (ab 0):=aq i.out 0;have H:d.cell? ⟨w.heap.size+1,1,none⟩=some (ab 0):=aq i.out 1;have I:d.cell? ⟨w.heap.size+1,2,none⟩=some (ae ⟨#[]⟩):=aq i.out 2;have J:d.cell? ⟨w.heap.size+1,3,none⟩=some (.slice none 0 0):=aq i.out 3;have Z:=λu=>cO i.out u;have V:d.cell? ⟨a.heap.size,0,none⟩=some (ab y.1.1):=aq k.out 0;have W:d.cell? ⟨a.heap.size,1,none⟩=some (ab y.1.2.1):=aq k.out 1;have X:d.cell? ⟨a.heap.size,2,none⟩=some (ae y.1.2.2):=aq k.out 2;have Y:d.cell? ⟨a.heap.size,3,none⟩=some (.slice y.2.1.1 y.2.2.length y.2.1.2):=aq k.out 3;go_wp2_with fail;refine ar (v:=.agg #[ab y.1.1,ab y.1.2.1,ae y.1.2.2,.slice y.2.1.1 y.2.2.length y.2.1.2]) (by simp[results,Tryz.results42,go_sem,G,H,I,J]) rfl ?_;refine⟨y,rfl,dp j.out.1 (by omega),?_,j.out.2.2.mono λq C=>by omega,l.out.2.2.2⟩;have e:=In.off (w':=cG d (w.heap.size+1) 0 (ab y.1.1) (ab y.1.2.1) (ae y.1.2.2) (.slice y.2.1.1 y.2.2.length y.2.1.2)) (λb (O:w.heap.size+2<=b)=>aT (by omega) _ _ _ _) j.out.2.2 j.out.2.1;rw[<-bj (w:=d) (g:=w.heap.size+1) (o:=0) (ab y.1.1) (ab y.1.2.1) (ae y.1.2.2) (.slice y.2.1.1 y.2.2.length y.2.1.2)]at e;exact e
theorem nX{n:Nat}{x:Tm n}(a:bq n x=0):aA ⟨n,x⟩:=aJ.2 (bz.1 a).1
section
variable {base pb:Nat} {name:ByteArray} {room:Int} {N:Nat} {s:Tm (N+1)} {ms:List (Tm (N+1))} {xs:List (Wd×Tm (N+1))} {nk:Nat} {M:Nat->Prop} {w:World} {ws:List Wd} {nm:List ByteArray} {sv:Wd} {vs:List Wd} {ma:Option Addr} {mc:Nat} {Mh:Nat->Prop}
theorem cv.later(a:cv base pb name room (N+1) s ms xs nk M w ws nm sv vs ma mc Mh){w1:World}(c:ai w w1):cv base pb name room (N+1) s ms xs nk M w1 ws nm sv vs ma mc Mh:=by
 refine⟨(a.heap.later c).mono λb c=>c.1,?_,a.has,a.len,a.names,a.inM,a.mailM⟩;rcases a.mail with g|⟨e,k,f,h,i,d,j⟩
 ·exact ag g
 ·exact ah ⟨e,k,f,h,i,(c.block e (aC.1 d).1).trans d,j⟩
theorem cv.read(a:cv base pb name room (N+1) s ms xs nk M w ws nm sv vs ma mc Mh)(k:nk<=50000){i:Nat}{v:Wd}{x:Tm (N+1)}(e:(sv::vs++xs.map (·.1))[i]?=some v)(c:(s::ms++xs.map (·.2))[i]?=some x):ak 42 #[.pointer (some ⟨pb,0,none⟩),.agg #[ab v.1,ab v.2]] w (mx (N+1) x w):=by
 obtain⟨f,l,g,m,n,o,p,q⟩:=a.has;have b:=g x (aG c);have j:=a.names;exact Gj pb N x v w λh d=>IC (N+1) x v base (PL pb name sv (.slice ma vs.length mc)) room ws nm Mh h ((a.later d).heap) (f.2 i v x e c) (nX b.1) b.2 (by omega) (by omega)
end
theorem Dm(e N:Nat)(x:Tm (N+1))(v:Wd)(w:World)(y:e<w.heap.size)(m:w.cell? ⟨e,5,none⟩=some (ab v.1))(n:w.cell? ⟨e,5+1,none⟩=some (ab v.2))(l:Hid (∀w1,ai w w1->ak 42 #[.pointer (some ⟨e,0,none⟩),.agg #[ab v.1,ab v.2]] w1 (mx (N+1) x w1))):ak 24 #[.pointer (some ⟨e,0,none⟩)] w (mx (N+1) x w):=by
 go_enter Tryz.func24,Tryz.ntmps24;go_wp2_with fail;refine(l.out _ aK).mono ?_;rintro f w1 ⟨a,rfl,d⟩;rw[show df (N+1) a=.agg #[ab a.1.1,ab a.1.2.1,ae a.1.2.2,.slice a.2.1.1 a.2.2.length a.2.1.2]from rfl];have c:=ao (qn w _ _ _ _ _ d.out.1);have k:Hid (ai w w1):=aK.trans (d.out.1.mono (by simp));have q:w1.cell? ⟨w.heap.size,0,none⟩=some (ab 0):=aq c.out 0;have r:w1.cell? ⟨w.heap.size,1,none⟩=some (ab 0):=aq c.out 1;have s:w1.cell? ⟨w.heap.size,2,none⟩=some (ae ⟨#[]⟩):=aq c.out 2;have t:w1.cell? ⟨w.heap.size,3,none⟩=some (.slice none 0 0):=aq c.out 3;have z:=λp=>cO c.out p;clear m n;go_wp2_with fail;refine ar (v:=.agg #[ab a.1.1,ab a.1.2.1,ae a.1.2.2,.slice a.2.1.1 a.2.2.length a.2.1.2]) (by simp[results,Tryz.results24,go_sem,q,r,s,t]) rfl ?_;have i:bZ (λh=>w.heap.size+1<=h) (N+1) a:=d.out.2.2.1.mono λh j=>by simpa using j
 refine⟨a,rfl,dp k.out (aj _),?_,i.mono λh j=>by omega,d.out.2.2.2⟩;have f:=In.off (w':=cG w1 w.heap.size 0 (ab a.1.1) (ab a.1.2.1) (ae a.1.2.2) (.slice a.2.1.1 a.2.2.length a.2.1.2)) (λb (u:w.heap.size+1<=b)=>aT (by omega) _ _ _ _) i d.out.2.1;rw[<-bj (w:=w1) (g:=w.heap.size) (o:=0) (ab a.1.1) (ab a.1.2.1) (ae a.1.2.2) (.slice a.2.1.1 a.2.2.length a.2.1.2)]at f;exact f
theorem jl.word{Mh:Nat->Prop}{ma:Option Addr}{vs:List Wd}{n:Nat}{w:World}(b:jl Mh ma vs n w){i:Nat}{v:Wd}(c:vs[i]?=some v):∃g a,ma=some ⟨g,a,none⟩/\g<w.heap.size/\w.cell? ⟨g,a+i*2,none⟩=some (ab v.1)/\w.cell? ⟨g,a+i*2+1,none⟩=some (ab v.2):=by
 rcases b with⟨_,h,_⟩|⟨g,a,p,j,_,e,q,_,r,m⟩
 ·rw[h]at c;simp at c
 ·have s:=(aM.1 c).1;have f:∀(l:List Wd)(i:Nat)(v:Wd),l[i]?=some v->(aU l)[i*2]?=some (ab v.1)/\(aU l)[i*2+1]?=some (ab v.2):=by
   intro l
   induction l with
   | nil=>intro i v b;simp at b
   | cons o l ih=>
    intro i v b;cases i with
    | zero=>simp at b;subst b;simp[aU,ph]
    | succ i=>
     have:=ih i v (by simpa using b);simp only[aU,bv,ph]at this ⊢;rw[show (i+1)*2=i*2+2 by omega,show i*2+2+1=(i*2+1)+2 by omega];simpa using this
  have d:∀k,k<vs.length*2->w.cell? ⟨g,a+k,none⟩=(aU vs)[k]? :=λk d=>by
   rw[<-m,jY,if_pos d,jX,lW];simp[World.cell?,e]
  refine⟨g,a,j,(aC.1 e).1,?_,?_⟩
  ·rw[d (i*2) (by omega)];exact(f vs i v c).1
  ·rw[show a+i*2+1=a+(i*2+1) by omega,d (i*2+1) (by omega)];exact(f vs i v c).2
def DH(N:Nat)(ms:List (Tm N))(w:World)(e:Ending)(w':World):Prop:=∃(ys:List (Tm N))(L:Nat)(a:Option Addr)(c:Nat),e=.returned (.slice a L c)/\Hid (ys.length=L/\dP N 0 w.heap.size ys (.slice a L c) w w'/\ay (λa b=>aw N a N b) ys ms=true)
theorem FL(n N:Nat)(ms:List (Tm (N+1)))(vs:List Wd)(L:Nat)(ma:Option Addr)(ad:Nat)(w:World)(U:Hid (vs.length=L))(D:Hid (ms.length=L))(aj:L<=1000)(_hpw:n<w.heap.size)(af:w.cell? ⟨n,7,none⟩=some (.slice ma L ad))(R:Hid (∀w1,ai w w1->∀(i:Nat)(v:Wd),vs[i]?=some v->∃g s,ma=some ⟨g,s,none⟩/\g<w.heap.size/\w1.cell? ⟨g,s+i*2,none⟩=some (ab v.1)/\w1.cell? ⟨g,s+i*2+1,none⟩=some (ab v.2)))(O:Hid (∀w1,ai w w1->∀(i:Nat)(v:Wd)(x:Tm (N+1)),vs[i]?=some v->ms[i]?=some x->ak 42 #[.pointer (some ⟨n,0,none⟩),.agg #[ab v.1,ab v.2]] w1 (mx (N+1) x w1))):ak 25 #[.pointer (some ⟨n,0,none⟩)] w (DH (N+1) ms w):=by
 obtain⟨aa,G,J,K,M⟩:=bQ fY;have o:=ao (⟨G,J,K,M⟩:_/\_/\_/\_);clear G J K M;go_enter Tryz.func25,Tryz.ntmps25;go_wp2_with fail;go_loopw [3,11] (λv i wr=>∃(k:Nat)(h:Option Addr)(c:Nat)(j:List (Tm (N+1))),k<=L/\i=ab k/\v=.slice h k c/\Hid (j.length=k/\dP (N+1) 0 w.heap.size j (.slice h k c) w wr/\ay (λh b=>aw (N+1) h (N+1) b) j (ms.take k)=true)) (λ_ i _=>L-(intOf i).toNat)
 case atStart=>exact⟨0,none,0,[],by omega,rfl,rfl,rfl,eU.nil _,by simp[ay]⟩
 case round=>
  obtain⟨k,h,c,j,an,rfl,rfl,e⟩:=hrel;have l:Hid (ai w wr):=e.out.2.1.1;by_cases H:k<L;rotate_left
  ·obtain rfl:k=L:=by omega
   go_wp2_with fail
   go_ret
   refine⟨j,k,h,c,rfl,e.out.1,e.out.2.1,?_⟩;have m:=e.out.2.2;rw[bw (by rw[D.out];omega)]at m;exact m
  ·obtain⟨v,z⟩:∃v,vs[k]?=some v:=⟨vs[k]'(by rw[U.out];exact H),aE _⟩;obtain⟨x,A⟩:∃x,ms[k]?=some x:=⟨ms[k]'(by rw[D.out];exact H),aE _⟩;have S:=ao A;have P:Hid (∀w1,ai w w1->ak 42 #[.pointer (some ⟨n,0,none⟩),.agg #[ab v.1,ab v.2]] w1 (mx (N+1) x w1)):=λw1 y=>O.out w1 y k v x z A;obtain⟨g,s,rfl,al,T,d1⟩:=R.out wr l.out k v z;clear z A;have ap:(0:Int)<=(k:Int):=by omega
   have aq:(k:Int)<(L:Int):=by omega
   have am:g<wr.heap.size:=by have:=l.out.size;omega
   go_wp2_with fail;refine(P.out _ (l.out.trans (aK.mono l.out.size))).mono ?_;rintro ag d ⟨a,rfl,p⟩;rw[show df (N+1) a=.agg #[ab a.1.1,ab a.1.2.1,ae a.1.2.2,.slice a.2.1.1 a.2.2.length a.2.1.2]from rfl];have u:Hid (ai wr d):=aK.trans (p.out.1.mono (by simp));have f:Hid (ai wr (d.alloc (.cells #[ab a.1.1,ab a.1.2.1,ae a.1.2.2,.slice a.2.1.1 a.2.2.length a.2.1.2] 30))/\(d.alloc (.cells #[ab a.1.1,ab a.1.2.1,ae a.1.2.2,.slice a.2.1.1 a.2.2.length a.2.1.2] 30)).heap.size=d.heap.size+1/\(d.alloc (.cells #[ab a.1.1,ab a.1.2.1,ae a.1.2.2,.slice a.2.1.1 a.2.2.length a.2.1.2] 30)).heap[d.heap.size]?=some (.cells #[ab a.1.1,ab a.1.2.1,ae a.1.2.2,.slice a.2.1.1 a.2.2.length a.2.1.2] 30)/\In (d.alloc (.cells #[ab a.1.1,ab a.1.2.1,ae a.1.2.2,.slice a.2.1.1 a.2.2.length a.2.1.2] 30)).heap.size (d.alloc (.cells #[ab a.1.1,ab a.1.2.1,ae a.1.2.2,.slice a.2.1.1 a.2.2.length a.2.1.2] 30)) (N+1) a/\bZ (λb=>b<0\/wr.heap.size<=b) (N+1) a):=by
    have m:ai d (d.alloc (.cells #[ab a.1.1,ab a.1.2.1,ae a.1.2.2,.slice a.2.1.1 a.2.2.length a.2.1.2] 30)):=aK;refine⟨u.out.trans (m.mono u.out.size),by simp,az _ _,(p.out.2.1.below m).mono m.size,p.out.2.2.1.mono λb y=>ah ?_⟩;have:wr.heap.size+1<=b:=by simpa using y
    omega
   have B:=λ(r q:Nat)(w4:World) Z X V=>ao (e.out.2.1.appAt (W:=(d.alloc (.cells #[ab a.1.1,ab a.1.2.1,ae a.1.2.2,.slice a.2.1.1 a.2.2.length a.2.1.2] 30))) (w4:=w4) (g:=r) (c:=q) e.out.1 (aF _) l.out.size f.out.1 a f.out.2.2.2.1 f.out.2.2.2.2 Z X V);have C:=ao (e.out.2.1.ownAt e.out.1 f.out.1);have ar:w.heap.size<=d.heap.size:=by have:=l.out.size;have:=u.out.size;omega
   clear T d1;go_wp2_with (at_builtin;refine wpList_append_lies _ rfl _ _ 28 rfl w.heap.size 30 aa _ 4 56 Tryz.underlying28 o.out.1 o.out.2.1 o.out.2.2.1 o.out.2.2.2 rfl (by decide) (.slice h k c) k (j.flatMap (gX (N+1))) (by simp[Act.eval]) C.out ⟨d.heap.size,0,none⟩ 1 1 (gX (N+1) a) (by simp[Act.eval]) rfl (World.news_of_block (cs:= #[ab a.1.1,ab a.1.2.1,ae a.1.2.2,.slice a.2.1.1 a.2.2.length a.2.1.2]) (t:=30) (fr:=(0,0)) f.out.2.2.1) (tz _ _) (by decide) (by unfold maxLen;omega) (by omega) (by have:=f.out.2.1;omega) (d.heap.size+1) f.out.2.1 ?_;intro r q w4 I F E Y;have Q:=B r q w4 I F (by rw[f.out.2.1];exact E);clear I F E Y B C);go_roundw
   case rel=>
    refine⟨k+1,some ⟨r,0,none⟩,q,j++ [a],by omega,by go_num,rfl,by rw[bf,e.out.1];rfl,Q.out,?_⟩;rw[dx,S.out];exact iB _ _ _ _ _ e.out.2.2 p.out.2.2.2
   case measure=>simp[intOf];omega
section
variable {base pb:Nat} {name:ByteArray} {room:Int} {N:Nat} {s:Tm (N+1)} {ms:List (Tm (N+1))} {xs:List (Wd×Tm (N+1))} {nk:Nat} {M:Nat->Prop} {w:World} {ws:List Wd} {nm:List ByteArray} {sv:Wd} {vs:List Wd} {ma:Option Addr} {mc:Nat} {Mh:Nat->Prop}
theorem cv.state(a:cv base pb name room (N+1) s ms xs nk M w ws nm sv vs ma mc Mh)(f:nk<=50000):ak 24 #[.pointer (some ⟨pb,0,none⟩)] w (mx (N+1) s w):=by
 obtain⟨k,h,j,d,_⟩:=a.heap.box;obtain⟨_,b,c,_,_,g⟩:=PL.cells d;exact Dm pb N s sv w g b c λl e=>(a.later e).read f (i:=0) (by simp) (by simp)
theorem cv.mails(a:cv base pb name room (N+1) s ms xs nk M w ws nm sv vs ma mc Mh)(n:nk<=50000)(u:ms.length<=1000):ak 25 #[.pointer (some ⟨pb,0,none⟩)] w (DH (N+1) ms w):=by
 obtain⟨y,v,x,k,_⟩:=a.heap.box;obtain⟨_,_,_,e,_,o⟩:=PL.cells k;have m:=a.len;refine FL pb N ms vs vs.length ma mc w rfl m.symm (by omega) o e (λt b i r c=>?_) (λt b i r z c p=>?_)
 ·obtain⟨j,q,f,d,g,h⟩:=a.mail.word c;exact⟨j,q,f,d,(ap b _ _ d).trans g,(ap b _ _ d).trans h⟩
 ·have l:=(aM.1 c).1;exact(a.later b).read n (i:=i+1) (by rw[fG,cV,dg l];exact c) (by rw[fG,cV,dg (by omega)];exact p)
end
theorem vC{base:Nat}{v:Value}{n m xc:Nat}{xs:List Value}{ps:List Wd}{xa:Option Addr}{w:World}(ty:TypeId)(f:w.ownsRow base 105 2 v n xs)(A:eQ w ps xa)(j:ps.length=m)(G:n+m<=200000)(x:base<=w.heap.size):∃a d w',(Builtin.append_ #[96,96] ty #[v,.slice xa m xc]).run Tryz.prog w=.ok (.slice a (n+m) d) w'/\w'.ownsRow base 105 2 (.slice a (n+m) d) (n+m) (xs++aU ps)/\w.grownBy w' v.ownBlock/\((Value.slice a (n+m) d).ownBlock=v.ownBlock\/(Value.slice a (n+m) d).ownBlock=some w.heap.size):=by
 obtain⟨l,i,B,C,D⟩:=bQ kA;have q:∀{w':World}{g:Value}{k:Nat}{F:List Value},w'.ownsRow base 105 2 g k F->∃o c,g=.slice o k c:=λe=>by
  rcases e.2 with⟨rfl,rfl⟩|⟨r,cap,p,rfl,_⟩
  ·exact⟨none,0,rfl⟩
  ·exact⟨_,cap,rfl⟩
 rcases A with rfl|⟨ad,rfl,y⟩
 ·obtain rfl:m=0:=j.symm;obtain⟨b,cap,E,z⟩:∃b cap,v=.slice b n cap/\n<=cap:=by
   rcases f.2 with⟨rfl,rfl⟩|⟨r,cap,p,rfl,_,_,e,_⟩
   ·exact⟨none,0,rfl,aj _⟩
   ·exact⟨_,cap,rfl,e⟩
  subst E;exact⟨b,cap,w,mZ w _ _ ty _ _ l Tryz.underlying96 Tryz.underlying96 i b xa n cap xc z,by simpa [aU]using f,gh _ _,ag rfl⟩
 ·obtain⟨g,w',s,h,t,_,u⟩:=run_append_own_at (P:=Tryz.prog) w base 96 ty 105 l _ 2 16 Tryz.underlying96 i B C D rfl (by decide) _ n xs f ad m xc (aU ps) (by rw[co,j]) y (pV _) (by unfold maxLen;omega) (by omega) x;obtain⟨a,d,rfl⟩:=q h;exact⟨a,d,w',s,h,t,u⟩
theorem uZ{w:World}{d:Array Oper}{o:Oper}{a:Act}{K:Act->World->Prop}{Q:Exit->Act->World->Prop}{E:Prop}(k:o.guard=none)(s x:Operand)(p:o.op=.call {callee:=.builtin .append,args:= #[s,x],argTypes:= #[96,96]}){base:Nat}{v:Value}{n m xc:Nat}{xs:List Value}{ps:List Wd}{xa:Option Addr}(t:a.eval s=v)(z:a.eval x=.slice xa m xc)(q:w.ownsRow base 105 2 v n xs)(u:eQ w ps xa)(l:ps.length=m)(h:n+m<=200000)(j:base<=w.heap.size)(i:∀b c w',w'.ownsRow base 105 2 (.slice b (n+m) c) (n+m) (xs++aU ps)->w.grownBy w' v.ownBlock->((Value.slice b (n+m) c).ownBlock=v.ownBlock\/(Value.slice b (n+m) c).ownBlock=some w.heap.size)->K (a.put o.dst (.slice b (n+m) c)) w'):if Region.wanted o (yielded d a.tmps)=true then Oper.wp Tryz.prog o a w K Q else E:=by
 have y:Region.wanted o (yielded d a.tmps)=true:=by simp[Region.wanted,k]
 rw[if_pos y];obtain⟨b,c,w',r,e,f,g⟩:=vC (xc:=xc) o.type q u l h j;unfold Oper.wp execOp;simp only[p,resolve,invoke,builtin,Sem.run_bind,Sem.run_pure,mq,mg,aI,bR,t,z,r];exact i _ _ _ e f g
theorem dy.turn{base d:Nat}{name:ByteArray}{g h:Wd}{mv j:Value}{room:Int}{ws:List Wd}{nm:List ByteArray}{M:Nat->Prop}{w w':World}(l:dy base (PL d name g mv) room ws nm M w)(k:bO (λb=>b=d) w w')(q:∀tv lv mp:Value,w.heap[d]?=some (.cells #[ae name,ab room,tv,lv,mp,ab g.1,ab g.2,mv] 107)->w'.heap[d]?=some (.cells #[ae name,ab room,tv,lv,mp,ab h.1,ab h.2,j] 107)):dy base (PL d name h j) room ws nm M w':=by
 obtain⟨tv,lv,mp,e,i,f,m,n,o,p⟩:=l;refine⟨tv,lv,mp,⟨⟨rfl,ah rfl⟩,q tv lv mp e.2⟩,dK i k (λb a c=>?_),f.kept k (λb a c=>?_) (λb a c=>?_),m,n,o,p⟩
 ·subst c;exact mN i e (by decide) a
 ·subst c;exact mN f.1 e (by decide) a
 ·subst c;exact tp f e a
theorem jl.words{Mh:Nat->Prop}{ma:Option Addr}{vs:List Wd}{k:Nat}{w:World}(j:jl Mh ma vs k w):eQ w vs ma:=by
 rcases j with⟨_,b,_⟩|⟨c,d,l,g,_,h,m,_,n,i⟩
 ·exact ag b
 ·refine ah ⟨⟨c,d,none⟩,g,λf p e=>?_⟩;have o:=(aM.1 e).1;have a:=e;rw[<-i,jY]at a;split at a
  ·rw[jX,lW]at a;have b:(⟨c,d,none⟩:Addr).add f=⟨c,d+f,none⟩:=by unfold Addr.add;split<;>simp[*]
   rw[b];simp[World.cell?,h,a]
  ·cases a
theorem jz.tidied{N:Nat}{ws:List Wd}{nm:List ByteArray}{room:Int}{b:List Wd}{a:List (Tm N)}(q:jz N ws nm room b a):jz N (jq ws N b).2.1 nm room (jq ws N b).1 a/\((jq ws N b).2.1.length:Int)=(a.map (sz N)).sum/\(jq ws N b).1.length=b.length:=by
 obtain⟨k,w,l,z,A,x,y,m⟩:=q;obtain⟨n,o,p⟩:=C6 m k w;have i:∀c∈a,aA ⟨N,c⟩:=λc f=>nX (l c f).1;have j:=nC (λg ws nm e=>gC N g ws nm e) a [] nm i;have t:=Aq N a [] nm;have r:=ut (λg ws nm e=>xY N g ws nm e) a [] nm i;have h:=gD (aS N) a [] nm;rw[p]at j;rw[n,o];simp only[jZ]at t;refine⟨⟨⟨h,λv C c u f=>?_⟩,r.1,l,by omega,by omega,x,y,m⟩,by omega,by rw[h,k.1]⟩;obtain⟨B,d,s⟩:=j v c f;rw[u]at d;injection d with d;rw[d];exact s
theorem lR(w:World){g q:Nat}(b:g≠q)(o:Nat)(v:Value)(j:Nat):(w.setCell ⟨q,o,none⟩ v).cell? ⟨g,j,none⟩=w.cell? ⟨g,j,none⟩:=by
 refine bm ?_ j;have c:¬q=g:=λa=>b a.symm;simp[World.setCell,bG,c]
def uB(g L:Nat):Option Addr:=if L=0 then some ⟨g,0,none⟩else some ⟨g,2,none⟩
def Bw(w:World)(a:Nat)(b:Wd)(mv:Value):World:=((w.setCell ⟨a,5,none⟩ (ab b.1)).setCell ⟨a,5+1,none⟩ (ab b.2)).setCell ⟨a,7,none⟩ mv
theorem GA(d:Nat)(f:Wd)(vs:List Wd)(L:Nat)(ma:Option Addr)(t:Nat)(w:World)(Fin:Nat->Wd->World->World->Prop)(Q:Hid (vs.length=L))(W:L<=1000)(q:Hid (∀w1,ai w w1->w1.cell? ⟨d,5,none⟩=some (ab f.1)/\w1.cell? ⟨d,5+1,none⟩=some (ab f.2)/\w1.cell? ⟨d,7,none⟩=some (.slice ma L t)))(M:Hid (∀w1,ai w w1->eQ w1 vs ma))(G:Hid (∀w1,ai w w1->∀(a:Option Addr)(c:Nat),w1.ownsRow w.heap.size 105 2 (.slice a (1+L) c) (1+L) (aU (f::vs))->ak 165 #[.pointer (some ⟨d,1,none⟩),.slice a (1+L) c] w1 λe w'=>∃(g:Nat)(h:Wd),e=.returned (.tuple #[.slice (some ⟨g,0,none⟩) (1+L) (1+L),ab 0])/\Hid ((w'.cell? ⟨g,0,none⟩=some (ab h.1)/\w'.cell? ⟨g,1,none⟩=some (ab h.2))/\g≠d/\(∃B C D,w'.cell? ⟨d,5,none⟩=some B/\w'.cell? ⟨d,5+1,none⟩=some C/\w'.cell? ⟨d,7,none⟩=some D)/\(∀j,w'.frozen? ⟨d,j,none⟩=false)/\Fin g h w1 w'))):ak 147 #[.pointer (some ⟨d,0,none⟩)] w λe w'=>e=.returned (.tuple #[])/\∃(g:Nat)(h:Wd)(w1 w2:World),w'=(Bw w2 d h (.slice (uB g L) L L)).drew/\Hid (ai w w1/\Fin g h w1 w2):=by
 obtain⟨N,O,P⟩:=q.out w (am _ _);have H:Hid (ai w w.drew):=(am _ _).drew;have k:Hid (ai w (w.alloc (.cells #[ab f.1,ab f.2] 105)).drew/\(w.alloc (.cells #[ab f.1,ab f.2] 105)).drew.ownsRow w.heap.size 105 2 (.slice (some ⟨w.heap.size,0,none⟩) 1 1) 1 (ph f)):=by
  refine⟨by go_grown,rfl,ah ⟨w.heap.size,1, #[ab f.1,ab f.2],rfl,aj _,qC w _ rfl,aj _,by unfold maxLen;omega,rfl,rfl⟩⟩
 go_enter Tryz.func147,Tryz.ntmps147;go_wp2_with fail
 go_region_held3 (λw'=>w'.cell? ⟨d,5,none⟩=some (ab f.1)/\w'.cell? ⟨d,5+1,none⟩=some (ab f.2)/\w'.cell? ⟨d,7,none⟩=some (.slice ma L t)) (first|(go_keep;done)|with_reducible exact q.out _ H.out|with_reducible exact q.out _ k.out.1|exact q.out _ r.out)
  ((refine uZ rfl _ _ rfl (base:=w.heap.size) (v:=.slice (some ⟨w.heap.size,0,none⟩) 1 1) (n:=1) (m:=L) (xc:=t) (xs:=ph f) (ps:=vs) (xa:=ma) (by simp[Act.eval]) (by simp[Act.eval]) k.out.2 (M.out _ k.out.1) Q.out (by omega) (by have:=k.out.1.size;exact this) ?_;intro u x w2 A o R;have r:Hid (ai w w2):=(k.out.1.trans ⟨o.os,o.tape,o.output,o.size,λb S=>o.block b (aL S k.out.1.size) (λe=>by simp[Value.ownBlock]at e;omega)⟩);have K:=ao (show w2.ownsRow w.heap.size 105 2 (.slice u (1+L) x) (1+L) (aU (f::vs))from A);clear A o R))
 have F:=ao (G.out w2 r.out u x K.out);clear N O P;go_wp2_with fail;refine F.out.mono ?_;rintro e i ⟨g,h,rfl,E⟩;obtain⟨⟨y,z⟩,l,⟨B,C,D,T,U,V⟩,X,s⟩:=E.out;replace s:=ao s;have Z:(0:Int)<1+(L:Int):=by omega
 have aa:(1:Int)<=1+(L:Int):=by omega
 have Y:d≠g:=λe=>l e.symm;have I:Hid (∀a b:Value,((i.setCell ⟨d,5,none⟩ a).setCell ⟨d,5+1,none⟩ b).cell? ⟨g,0,none⟩=some (ab h.1)/\((i.setCell ⟨d,5,none⟩ a).setCell ⟨d,5+1,none⟩ b).cell? ⟨g,1,none⟩=some (ab h.2)):=λa b=>by
  have p:∀j,((i.setCell ⟨d,5,none⟩ a).setCell ⟨d,5+1,none⟩ b).cell? ⟨g,j,none⟩=i.cell? ⟨g,j,none⟩:=λj=>(lR _ l _ _ j).trans (lR _ l _ _ j);exact⟨(p _).trans y,(p _).trans z⟩
 have J:Hid (∀a b c:Value,(((i.setCell ⟨d,5,none⟩ a).setCell ⟨d,5+1,none⟩ b).setCell ⟨d,7,none⟩ c).cell? ⟨g,0,none⟩=some (ab h.1)/\(((i.setCell ⟨d,5,none⟩ a).setCell ⟨d,5+1,none⟩ b).setCell ⟨d,7,none⟩ c).cell? ⟨g,1,none⟩=some (ab h.2)):=λa b c=>by
  have p:∀j,(((i.setCell ⟨d,5,none⟩ a).setCell ⟨d,5+1,none⟩ b).setCell ⟨d,7,none⟩ c).cell? ⟨g,j,none⟩=i.cell? ⟨g,j,none⟩:=λj=>(lR _ l _ _ j).trans ((lR _ l _ _ j).trans (lR _ l _ _ j));exact⟨(p _).trans y,(p _).trans z⟩
 go_wp2_with fail;go_region_held3 (λw'=>w'.cell? ⟨g,0,none⟩=some (ab h.1)/\w'.cell? ⟨g,1,none⟩=some (ab h.2)) (first|(go_keep;done)|exact I.out _ _|exact J.out _ _ _) (fail);exact dO (v:=.tuple #[]) (by simp[results]) rfl ⟨rfl,g,h,w2,i,rfl,r.out,s.out⟩
theorem jz.front{N:Nat}{ws:List Wd}{nm:List ByteArray}{room:Int}{g t:List Wd}{e f:List (Tm N)}(m:jz N ws nm room (g++t) (e++f))(n:g.length=e.length):jz N ws nm room g e:=by
 obtain⟨i,d,j,k,p,q,r,s⟩:=m;refine⟨⟨n,λo u b h c=>i.2 o u b ?_ ?_⟩,?_,λb c=>j b (mh _ c),?_,p,q,r,s⟩
 ·rw[dg (aM.1 h).1];exact h
 ·rw[dg (aM.1 c).1];exact c
 ·rw[jW]at d;exact(eL.1 d).1
 ·rw[fH,List.sum_append]at k;have w:(0:Int)<=(f.map (sz N)).sum:=by
   clear i d k
   induction f with
   | nil=>simp
   | cons b l ih=>
    have x:=ih λv a=>j v (by simp only[da,cB]at a ⊢;rcases a with a|a<;>simp[a]);have y:=(eH N b).1;simp only[aI,bC];omega
  omega
theorem Ex{N:Nat}:(l:List (Tm N))->(l.map λy=>1+sz N y).sum=l.length+(l.map (sz N)).sum
 | []=>by simp
 | y::l=>by
  have a:=Ex l;simp only[aI,bC,aZ,a];omega
theorem ww{N:Nat}:(l:List (Tm N))->(∀y∈l,aA ⟨N,y⟩)->((l.flatMap λy=>av N y).length:Int)<=(l.map λy=>1+sz N y).sum
 | [],_=>by simp
 | y::l,h=>by
  have c:=ww l λb a=>h b (by simp[a]);have d:=uH N y (h y (by simp));simp only[bv,bf,aI,bC];omega
theorem jz.roots{N:Nat}{ws:List Wd}{nm:List ByteArray}{room:Int}{d:List Wd}{a:List (Tm N)}(h:jz N ws nm room d a)(i:d.length<=1000):DI ws nm N d a:=by
 obtain⟨f,m,g,n,o,p,q,r⟩:=h;have e:∀b∈a,aA ⟨N,b⟩:=λb c=>nX (g b c).1;have j:=Ex a;have k:=ww a e;have l:=f.1;exact⟨f,e,λb c=>(g b c).2,by omega,by omega,i⟩
theorem CU{base n c:Nat}{a:Option Addr}{vs:List Wd}{w:World}(e:w.ownsRow base 105 2 (.slice a n c) n (aU vs))(s:0<n):eA w vs a/\∀b o,a=some ⟨b,o,none⟩->b<w.heap.size:=by
 rcases e.2 with⟨d,q⟩|⟨h,cap,p,d,t,i,_⟩
 ·omega
 ·injection d with f r g;subst f g;have j:=(aC.1 i).1;refine⟨ah ⟨h,0,rfl,j,λl m k=>?_⟩,λb o d=>?_⟩
  ·have:=iG e l m k;rw[cP];exact this
  ·injection d with d;injection d with d;omega
section
variable {base pb:Nat} {name:ByteArray} {room:Int} {N:Nat} {s:Tm (N+1)} {ms:List (Tm (N+1))} {xs:List (Wd×Tm (N+1))} {nk:Nat} {M:Nat->Prop} {w:World} {ws:List Wd} {nm:List ByteArray} {sv:Wd} {vs:List Wd} {ma:Option Addr} {mc:Nat} {Mh:Nat->Prop}
theorem cv.front(a:cv base pb name room (N+1) s ms xs nk M w ws nm sv vs ma mc Mh):jz (N+1) ws nm room (sv::vs) (s::ms):=
 jz.front a.has (by simp[a.len])
theorem Dz{w:World}{pb:Nat}{c0 a b c d e f g:Value}{t:TypeId}(sv:Wd)(mv:Value)(h:w.heap[pb]?=some (.cells #[c0,a,b,c,d,e,f,g] t)):(Bw w pb sv mv).heap[pb]?=some (.cells #[c0,a,b,c,d,ab sv.1,ab sv.2,mv] t):=by
 unfold Bw World.setCell;simp[bG,h]
theorem GS(w:World)(pb:Nat)(sv:Wd)(mv:Value):bO (λb=>b=pb) w (Bw w pb sv mv).drew:=by
 have c:=bi w pb 5 (ab sv.1);have d:=bi (w.setCell ⟨pb,5,none⟩ (ab sv.1)) pb (5+1) (ab sv.2);have e:=bi ((w.setCell ⟨pb,5,none⟩ (ab sv.1)).setCell ⟨pb,5+1,none⟩ (ab sv.2)) pb 7 mv;have a:=(c.trans d λ_ _ k=>k).trans e λ_ _ k=>k;exact⟨a.os,a.tape,a.output,a.size,a.block⟩
def Ko(base pb:Nat)(name:ByteArray)(room:Int)(N:Nat)(s:Tm N)(ms:List (Tm N))(nk:Nat)(M:Nat->Prop)(nm:List ByteArray)(w:World)(e:Ending)(w':World):Prop:=
 e=.returned (.tuple #[])/\∃c g a f d,cv base pb name room N s ms [] nk (λb=>M b\/w.heap.size<=b) w' c nm g a f a.length d/\Hid (bO M w w'/\(c.length:Int)=((s::ms).map (sz N)).sum)
theorem cv.tidy(e:cv base pb name room (N+1) s ms xs nk M w ws nm sv vs ma mc Mh)(aL:nk<=50000)(aF:ms.length<=999)(aG:base<=w.heap.size):ak 147 #[.pointer (some ⟨pb,0,none⟩)] w (Ko base pb name room (N+1) s ms nk M nm w):=by
 have C:=e.front;have aJ:=e.len;have an:=e.names;have aq:=C.roots (by simp only[aZ];omega);obtain⟨L,au,v⟩:=C.tidied;obtain⟨q,j,B⟩:∃q j,(jq ws (N+1) (sv::vs)).1=q::j:=by
  cases u:(jq ws (N+1) (sv::vs)).1 with
  | nil=>rw[u]at v;simp at v
  | cons n l=>exact⟨n,l,rfl⟩
 rw[B]at L v;simp only[aZ]at v;have I:j.length=vs.length:=by omega
 obtain⟨_,_,_,_,aN,_,aO,_⟩:=C;refine(GA pb sv vs vs.length ma mc w (λa m g r=>m=q/\xp base (PL pb name sv (.slice ma vs.length mc)) room (jq ws (N+1) (sv::vs)) nm Mh a g r) rfl (by omega) ?_ ?_ ?_).mono ?_
 ·intro g f;obtain⟨R,P,aw,z,_⟩:=(e.later f).heap.box;obtain⟨_,U,V,W,_⟩:=PL.cells z;exact⟨U,V,W⟩
 ·intro g f;exact(e.later f).mail.words
 ·intro g f n c ao;have ar:=f.size;obtain⟨aj,am⟩:=CU ao (by omega);have al:(sv::vs).length=1+vs.length:=by simp only[aZ];omega
  have t:=xU (N+1) (s::ms) (sv::vs) n c base (PL pb name sv (.slice ma vs.length mc)) room ws nm Mh g (e.later f).heap aq aj am (by omega) (by omega) (by omega);rw[al]at t;refine t.mono ?_;rintro d r ⟨a,rfl,G⟩;have T:=G.out;obtain⟨E,Q,F,ay,az,x⟩:=T;obtain⟨R,P,aw,z,_⟩:=E.box;obtain⟨_,X,Y,Z,aa,aB⟩:=PL.cells z;obtain⟨aA,av,ax,A,_⟩:=(e.later f).heap.box;have ap:pb<g.heap.size:=(PL.cells A).2.2.2.2.2;refine⟨a,q,rfl,⟨?_,by omega,⟨_,_,_,X,Y,Z⟩,aa,rfl,G.out⟩⟩;rw[B]at F;rcases F with d|⟨b,o,d,aH,af⟩
  ·cases d
  ·injection d with d;injection d with k p;subst k p;have:=af 0 q rfl;simpa using this
 ·rintro d aP ⟨rfl,a,m,g,r,rfl,S⟩;obtain⟨f,rfl,E,Q,F,ay,az,len,x⟩:=S.out;have ar:=f.size;obtain⟨aA,av,ax,A,_⟩:=(e.later f).heap.box;have ap:pb<g.heap.size:=(PL.cells A).2.2.2.2.2;have ad:Mh pb:=by
   obtain⟨_,_,_,_,_,_,i,_⟩:=e.heap;exact i
  have D:=GS r pb m (.slice (uB a vs.length) vs.length vs.length);rw[B]at x;have ai:¬a=pb:=by omega
  refine⟨rfl,(jq ws (N+1) (sv::vs)).2.1,m,j,uB a vs.length,λb=>(Mh b\/g.heap.size<=b)/\b≠a,⟨?_,?_,?_,by omega,an,?_,?_⟩,?_⟩
  ·rw[I];exact E.turn D λR P mp t=>Dz m _ t
  ·rw[I];rcases x.2 with⟨d,aD⟩|⟨aE,cap,y,d,_,u,aI,aK,aM,O⟩
   ·cases d
   ·injection d with k p ab;injection k with k;injection k with k;subst k ab;have J:(Bw r pb m (.slice (uB a vs.length) vs.length vs.length)).drew.heap[a]?=some (.cells y 105 (0,0)):=(D.block a (aC.1 u).1 ai).trans u;have K:=x.1;rw[co]at K;simp only[aZ]at K;refine ah ?_;by_cases H:vs.length=0
    ·refine⟨a,0,y,by simp[uB,H],by simp,J,by omega,by unfold maxLen;omega,by omega,?_⟩;have:j=[]:=List.length_eq_zero_iff.1 (by omega);simp[this,aU]
    ·refine⟨a,2,y,by simp[uB,H],by simp,J,by omega,by omega,by omega,?_⟩;have d:len*2=2+j.length*2:=by omega
     rw[d]at O;have p:=congrArg (List.drop 2) O;rw[List.drop_take,show 2+j.length*2-2=j.length*2 from by omega]at p;exact p
  ·simpa using L
  ·intro b ae;rcases ae.1 with i|i
   ·exact ag (e.inM b i)
   ·exact ah (by omega)
  ·intro n h;have:n.block=a:=by
    unfold uB at h;split at h
    ·injection h with h;rw[<-h]
    ·injection h with h;rw[<-h]
   exact ah (by omega)
  ·refine⟨?_,au⟩;refine bO.trans ((aV f M).trans (Q.mono e.inM) λ_ _ i=>i) D λb _ i=>?_;rw[i];exact e.inM pb ad
end
def Up(n:Nat)(w0 w1:World):Prop:=w0.heap.size<=w1.heap.size/\∀b,n<=b->b<n+3->b<w0.heap.size->w1.heap[b]?=w0.heap[b]?
theorem uW(w:World){b q:Nat}(c:b≠q)(o:Nat)(v:Value):(w.setCell ⟨q,o,none⟩ v).heap[b]?=w.heap[b]? :=by
 have d:¬q=b:=λa=>c a.symm;simp[World.setCell,bG,d]
def uN(w:World)(g:Nat)(a b:Value):World:=(w.setCell ⟨g,0,none⟩ a).setCell ⟨g,0+1,none⟩ b
theorem kH{w:World}{g b:Nat}(a:b≠g)(x y:Value):(uN w g x y).heap[b]?=w.heap[b]? :=(uW _ a _ _).trans (uW _ a _ _)
theorem Gh(w:World)(g:Nat)(x y:Value):(uN w g x y).heap.size=w.heap.size:=by simp[uN,World.setCell]
theorem AV(al:Nat)(k i:Int)(t:ByteArray)(h:Option Addr)(l j:Nat)(w:World)(O:Wd->Int->World->World->Prop)(an:World->World->Prop)(aC:Wd->Int->World->World->Prop)(aE:Hid (∀w0,ai w w0->ak 66 #[.pointer (some ⟨al,1,none⟩),.agg #[ab k,ab i,ae t,.slice h l j]] w0 λe w1=>∃(v:Wd)(g:Int),e=.returned (.tuple #[.agg #[ab v.1,ab v.2],ab g])/\Hid (Up w.heap.size w0 w1/\O v g w0 w1)))(aG:Hid (∀v1 w0 w1 w2,ai w w0->O v1 6 w0 w1->bO (λb=>w.heap.size<=b/\b<w0.heap.size) w1 w2->w.heap.size+3<=w2.heap.size->ak 147 #[.pointer (some ⟨al,0,none⟩)] w2 λe d=>e=.returned (.tuple #[])/\Hid (Up w.heap.size w2 d/\an w2 d)))(aF:Hid (∀w2 d N,an w2 d->w.heap.size+3<=w2.heap.size->ai d N->ak 66 #[.pointer (some ⟨al,1,none⟩),.agg #[ab k,ab i,ae t,.slice h l j]] N λe w4=>∃(v:Wd)(g:Int),e=.returned (.tuple #[.agg #[ab v.1,ab v.2],ab g])/\Hid (Up w.heap.size N w4/\aC v g N w4))):ak 109 #[.pointer (some ⟨al,0,none⟩),.agg #[ab k,ab i,ae t,.slice h l j]] w λe w'=>∃(v:Wd)(g:Int),e=.returned (.tuple #[.agg #[ab v.1,ab v.2],ab g])/\ ((g≠6/\∃w0 w1,ai w w0/\O v g w0 w1/\bO (λb=>w.heap.size<=b/\b<w0.heap.size) w1 w')\/∃v1 w0 w1 w2 d N w4,ai w w0/\O v1 6 w0 w1/\bO (λb=>w.heap.size<=b/\b<w0.heap.size) w1 w2/\w.heap.size+3<=w2.heap.size/\an w2 d/\ai d N/\aC v g N w4/\bO (λb=>b=w.heap.size+1) w4 w'):=by
 go_enter Tryz.func109,Tryz.ntmps109;go_wp2_with fail;have R:=ao (jI w (.cells #[ab k,ab i,ae t,.slice h l j] 30) (.cells #[ab 0,ab 0] 105));have m:Hid (ai w ((w.alloc (.cells #[ab k,ab i,ae t,.slice h l j] 30)).alloc (.cells #[ab 0,ab 0] 105))/\((w.alloc (.cells #[ab k,ab i,ae t,.slice h l j] 30)).alloc (.cells #[ab 0,ab 0] 105)).heap.size=w.heap.size+1+1):=⟨by go_grown,by simp⟩;generalize aH:(w.alloc _).alloc _=c;rw[aH]at R m;clear aH;have F:Hid (∀w':World,w'.heap[w.heap.size]?=c.heap[w.heap.size]? ->w'.cell? ⟨w.heap.size,0,none⟩=some (ab k)/\w'.cell? ⟨w.heap.size,1,none⟩=some (ab i)/\w'.cell? ⟨w.heap.size,2,none⟩=some (ae t)/\w'.cell? ⟨w.heap.size,3,none⟩=some (.slice h l j)):=λw' T=>by
  have f:=T.trans R.out.1;exact⟨aq f 0,aq f 1,aq f 2,aq f 3⟩
 obtain⟨aS,aT,aU,aW⟩:=F.out c rfl;have u:Hid (ai c c.drew/\c.drew.heap[w.heap.size]?=c.heap[w.heap.size]?):=⟨(am _ _).drew,rfl⟩;have Q:Hid (ai c (c.alloc (.cells #[ab 0,ab 0] 105)).drew/\(c.alloc (.cells #[ab 0,ab 0] 105)).drew.heap[w.heap.size]?=c.heap[w.heap.size]?):=by
  have T:ai c (c.alloc (.cells #[ab 0,ab 0] 105)).drew:=by go_grown
  exact⟨T,T.block _ (by have:=m.out.2;omega)⟩
 have av:Hid ((c.alloc (.cells #[ab 0,ab 0] 105)).drew.heap[c.heap.size]?=some (.cells #[ab 0,ab 0] 105)/\(c.alloc (.cells #[ab 0,ab 0] 105)).drew.heap.size=c.heap.size+1):=⟨qC c _ rfl,by simp⟩
 go_region_held3 (λw'=>w'.cell? ⟨w.heap.size,0,none⟩=some (ab k)/\w'.cell? ⟨w.heap.size,1,none⟩=some (ab i)/\w'.cell? ⟨w.heap.size,2,none⟩=some (ae t)/\w'.cell? ⟨w.heap.size,3,none⟩=some (.slice h l j)) (first|(go_keep;done)|with_reducible exact F.out _ u.out.2|with_reducible exact F.out _ Q.out.2|exact F.out _ P.out|exact F.out _ (ad.out _)|exact F.out _ (ap.out _ _)|exact F.out _ (aD.out _ _ _))
  ((first
   | (go_at_call 66;refine(aE.out _ (m.out.1.trans (u.out.1.mono m.out.1.size))).mono ?_;rintro e w1 ⟨v,g,rfl,p⟩;have P:Hid (w1.heap[w.heap.size]?=c.heap[w.heap.size]?):=(p.out.1.2 _ (aj _) (by omega) (by have f:=u.out.1.size;have s:=m.out.2;omega)).trans u.out.2;have ad:Hid (∀o:Obj,(w1.alloc o).heap[w.heap.size]?=c.heap[w.heap.size]?):=λo=>(gq w1 o (by have f:=p.out.1.1;have s:=u.out.1.size;have af:=m.out.2;omega)).trans P.out;have aD:Hid (∀(o:Obj)(n b:Value),(uN (w1.alloc o) w1.heap.size n b).heap[w.heap.size]?=c.heap[w.heap.size]?):=λo n b=>(kH (by have f:=p.out.1.1;have s:=u.out.1.size;have af:=m.out.2;omega) n b).trans (ad.out o))
   | (go_at_call 66;refine(aE.out _ (m.out.1.trans (Q.out.1.mono m.out.1.size))).mono ?_;rintro e w1 ⟨v,g,rfl,p⟩;have P:Hid (w1.heap[w.heap.size]?=c.heap[w.heap.size]?):=(p.out.1.2 _ (aj _) (by omega) (by have f:=Q.out.1.size;have s:=m.out.2;omega)).trans Q.out.2;have X:Hid (w1.heap[c.heap.size]?=some (.cells #[ab 0,ab 0] 105)):=(p.out.1.2 c.heap.size (by have s:=m.out.2;omega) (by have s:=m.out.2;omega) (by have s:=av.out.2;omega)).trans av.out.1;have aL:w1.cell? ⟨c.heap.size,0,none⟩=some (ab 0):=aq X.out 0;have aM:w1.cell? ⟨c.heap.size,1,none⟩=some (ab 0):=aq X.out 1;have aN:=λz=>cO X.out z;have ap:Hid (∀n b:Value,(uN w1 c.heap.size n b).heap[w.heap.size]?=c.heap[w.heap.size]?):=λn b=>(kH (by have af:=m.out.2;omega) n b).trans P.out)))
 ·have V:Hid (∃w0 r w2,(r=w1.heap.size/\w2=w1.alloc (.cells #[ab v.1,ab v.2] 105))/\ai w w0/\O v g w0 w1/\bO (λb=>w.heap.size<=b/\b<w0.heap.size) w1 w2/\w.heap.size+3<=w2.heap.size/\w2.heap[w.heap.size]?=some (.cells #[ab k,ab i,ae t,.slice h l j] 30)/\w2.heap[w.heap.size+1]?=some (.cells #[ab 0,ab 0] 105)/\w2.heap[r]?=some (.cells #[ab v.1,ab v.2] 105)/\w.heap.size+1≠r/\w.heap.size+2<=w0.heap.size):=by
    have f:=p.out.1.1;have s:=u.out.1.size;have af:=m.out.2;have aw:∀b,b<w1.heap.size->(w1.alloc (.cells #[ab v.1,ab v.2] 105)).heap[b]?=w1.heap[b]? :=λb aJ=>gq w1 _ aJ;refine⟨c.drew,_,_,⟨rfl,rfl⟩,m.out.1.trans (u.out.1.mono m.out.1.size),p.out.2,aV aK _,by simp only[gK];omega,(ad.out _).trans R.out.1,?_,az _ _,by omega,by omega⟩;exact(aw _ (by omega)).trans ((p.out.1.2 _ (by omega) (by omega) (by omega)).trans ((u.out.1.block _ (by omega)).trans R.out.2))
  obtain⟨w0,r,w2,⟨S,J⟩,a⟩:=V.out;rw[<-S,<-J];replace a:=ao a;clear S J V ad aD P p;have aA:w2.cell? ⟨r,0,none⟩=some (ab v.1):=aq a.out.2.2.2.2.2.2.1 0;have aB:w2.cell? ⟨r,1,none⟩=some (ab v.2):=aq a.out.2.2.2.2.2.2.1 1;have A:w2.cell? ⟨w.heap.size+1,0,none⟩=some (ab 0):=aq a.out.2.2.2.2.2.1 0;have B:w2.cell? ⟨w.heap.size+1,1,none⟩=some (ab 0):=aq a.out.2.2.2.2.2.1 1;have aa:=λz=>cO a.out.2.2.2.2.2.1 z;by_cases K:g=6;rotate_left
  ·have aI:¬(6:Int)=g:=λe=>K e.symm;go_wp2_with fail;refine ar (v:=.tuple #[.agg #[ab v.1,ab v.2],ab g]) (by simp[results,Tryz.results109,go_sem,A,B]) rfl ?_;obtain⟨G,H,I,_,_,_,_,_,Y⟩:=a.out;refine⟨v,g,rfl,ag ⟨K,w0,w1,G,H,bO.trans I ((bi w2 (w.heap.size+1) 0 _).trans (bi _ (w.heap.size+1) _ _) λ_ _ e=>e) λb _ e=>?_⟩⟩;subst e;omega
  ·subst K;have W:=ao (aG.out v w0 w1 w2 a.out.1 a.out.2.1 a.out.2.2.1 a.out.2.2.2.1);go_wp2_with fail;refine W.out.mono ?_;rintro e d ⟨rfl,C⟩;clear aA aB A B aa W;have q:Hid (d.heap[w.heap.size]?=some (.cells #[ab k,ab i,ae t,.slice h l j] 30)/\d.heap[w.heap.size+1]?=some (.cells #[ab 0,ab 0] 105)/\w.heap.size+3<=d.heap.size):=by
    have ay:=a.out.2.2.2.1;have L:=C.out.1;exact⟨(L.2 _ (by omega) (by omega) (by omega)).trans a.out.2.2.2.2.1,(L.2 _ (by omega) (by omega) (by omega)).trans a.out.2.2.2.2.2.1,ax ay L.1⟩
   have x:Hid (ai d d.drew):=(am _ _).drew;have y:Hid (∀w':World,w'.heap[w.heap.size]?=some (.cells #[ab k,ab i,ae t,.slice h l j] 30)->w'.cell? ⟨w.heap.size,0,none⟩=some (ab k)/\w'.cell? ⟨w.heap.size,1,none⟩=some (ab i)/\w'.cell? ⟨w.heap.size,2,none⟩=some (ae t)/\w'.cell? ⟨w.heap.size,3,none⟩=some (.slice h l j)):=λw' f=>⟨aq f 0,aq f 1,aq f 2,aq f 3⟩;obtain⟨aO,aP,aQ,aR⟩:=y.out d q.out.1;go_wp2_with fail
   go_region_held3 (λw'=>w'.cell? ⟨w.heap.size,0,none⟩=some (ab k)/\w'.cell? ⟨w.heap.size,1,none⟩=some (ab i)/\w'.cell? ⟨w.heap.size,2,none⟩=some (ae t)/\w'.cell? ⟨w.heap.size,3,none⟩=some (.slice h l j)) (first|(go_keep;done)|exact y.out _ q.out.1|exact y.out _ U.out|exact y.out _ (au.out _ _))
    ((go_at_call 66;refine(aF.out w2 d _ C.out.2 a.out.2.2.2.1 x.out).mono ?_;rintro e w4 ⟨M,Z,rfl,D⟩;have U:Hid (w4.heap[w.heap.size]?=some (.cells #[ab k,ab i,ae t,.slice h l j] 30)):=(D.out.1.2 _ (aj _) (by omega) (by have f:=q.out.2.2;have s:=x.out.size;omega)).trans q.out.1;have E:Hid (w4.heap[w.heap.size+1]?=some (.cells #[ab 0,ab 0] 105)):=(D.out.1.2 (w.heap.size+1) (by omega) (by omega) (by have f:=q.out.2.2;have s:=x.out.size;omega)).trans q.out.2.1;have A:w4.cell? ⟨w.heap.size+1,0,none⟩=some (ab 0):=aq E.out 0;have B:w4.cell? ⟨w.heap.size+1,1,none⟩=some (ab 0):=aq E.out 1;have aa:=λz=>cO E.out z;have au:Hid (∀n b:Value,(uN w4 (w.heap.size+1) n b).heap[w.heap.size]?=some (.cells #[ab k,ab i,ae t,.slice h l j] 30)):=λn b=>(kH (by omega) n b).trans U.out))
   go_wp2_with fail;refine ar (v:=.tuple #[.agg #[ab M.1,ab M.2],ab Z]) (by simp[results,Tryz.results109,go_sem,A,B]) rfl ?_;obtain⟨G,H,I,Y,_⟩:=a.out;exact⟨M,Z,rfl,ah ⟨v,w0,w1,w2,d,d.drew,w4,G,H,I,Y,C.out.2,x.out,D.out.2,(bi w4 (w.heap.size+1) 0 _).trans (bi _ (w.heap.size+1) _ _) λ_ _ e=>e⟩⟩
 ·have V:Hid (∃w0 r w2,(r=c.heap.size/\w2=uN w1 c.heap.size (ab v.1) (ab v.2))/\ai w w0/\O v g w0 w1/\bO (λb=>w.heap.size<=b/\b<w0.heap.size) w1 w2/\w.heap.size+3<=w2.heap.size/\w2.heap[w.heap.size]?=some (.cells #[ab k,ab i,ae t,.slice h l j] 30)/\w2.heap[w.heap.size+1]?=some (.cells #[ab 0,ab 0] 105)/\w2.heap[r]?=some (.cells #[ab v.1,ab v.2] 105)/\w.heap.size+1≠r/\w.heap.size+2<=w0.heap.size):=by
    have f:=p.out.1.1;have s:=av.out.2;have af:=m.out.2;have aw:bO (λb=>w.heap.size<=b/\b<(c.alloc (.cells #[ab 0,ab 0] 105)).drew.heap.size) w1 (uN w1 c.heap.size (ab v.1) (ab v.2)):=((bi w1 c.heap.size 0 _).trans (bi _ c.heap.size _ _) λ_ _ e=>e).mono λb e=>by subst e;omega
    refine⟨_,_,_,⟨rfl,rfl⟩,m.out.1.trans (Q.out.1.mono m.out.1.size),p.out.2,aw,by rw[Gh];omega,(ap.out _ _).trans R.out.1,?_,?_,by omega,by omega⟩
    ·exact(kH (by omega) _ _).trans ((p.out.1.2 _ (by omega) (by omega) (by omega)).trans ((Q.out.1.block _ (by omega)).trans R.out.2))
    ·have T:=X.out;unfold uN World.setCell;simp[bG,T]
  obtain⟨w0,r,w2,⟨S,J⟩,a⟩:=V.out;unfold uN at J;rw[<-S];rw[<-S]at J;rw[<-J];replace a:=ao a;clear S J V ap P p X aL aM aN;have aA:w2.cell? ⟨r,0,none⟩=some (ab v.1):=aq a.out.2.2.2.2.2.2.1 0;have aB:w2.cell? ⟨r,1,none⟩=some (ab v.2):=aq a.out.2.2.2.2.2.2.1 1;have A:w2.cell? ⟨w.heap.size+1,0,none⟩=some (ab 0):=aq a.out.2.2.2.2.2.1 0;have B:w2.cell? ⟨w.heap.size+1,1,none⟩=some (ab 0):=aq a.out.2.2.2.2.2.1 1;have aa:=λz=>cO a.out.2.2.2.2.2.1 z;by_cases K:g=6;rotate_left
  ·have aI:¬(6:Int)=g:=λe=>K e.symm;go_wp2_with fail;refine ar (v:=.tuple #[.agg #[ab v.1,ab v.2],ab g]) (by simp[results,Tryz.results109,go_sem,A,B]) rfl ?_;obtain⟨G,H,I,_,_,_,_,_,Y⟩:=a.out;refine⟨v,g,rfl,ag ⟨K,w0,w1,G,H,bO.trans I ((bi w2 (w.heap.size+1) 0 _).trans (bi _ (w.heap.size+1) _ _) λ_ _ e=>e) λb _ e=>?_⟩⟩;subst e;omega
  ·subst K;have W:=ao (aG.out v w0 w1 w2 a.out.1 a.out.2.1 a.out.2.2.1 a.out.2.2.2.1);go_wp2_with fail;refine W.out.mono ?_;rintro e d ⟨rfl,C⟩;clear aA aB A B aa W;have q:Hid (d.heap[w.heap.size]?=some (.cells #[ab k,ab i,ae t,.slice h l j] 30)/\d.heap[w.heap.size+1]?=some (.cells #[ab 0,ab 0] 105)/\w.heap.size+3<=d.heap.size):=by
    have ay:=a.out.2.2.2.1;have L:=C.out.1;exact⟨(L.2 _ (by omega) (by omega) (by omega)).trans a.out.2.2.2.2.1,(L.2 _ (by omega) (by omega) (by omega)).trans a.out.2.2.2.2.2.1,ax ay L.1⟩
   have x:Hid (ai d d.drew):=(am _ _).drew;have y:Hid (∀w':World,w'.heap[w.heap.size]?=some (.cells #[ab k,ab i,ae t,.slice h l j] 30)->w'.cell? ⟨w.heap.size,0,none⟩=some (ab k)/\w'.cell? ⟨w.heap.size,1,none⟩=some (ab i)/\w'.cell? ⟨w.heap.size,2,none⟩=some (ae t)/\w'.cell? ⟨w.heap.size,3,none⟩=some (.slice h l j)):=λw' f=>⟨aq f 0,aq f 1,aq f 2,aq f 3⟩;obtain⟨aO,aP,aQ,aR⟩:=y.out d q.out.1;go_wp2_with fail
   go_region_held3 (λw'=>w'.cell? ⟨w.heap.size,0,none⟩=some (ab k)/\w'.cell? ⟨w.heap.size,1,none⟩=some (ab i)/\w'.cell? ⟨w.heap.size,2,none⟩=some (ae t)/\w'.cell? ⟨w.heap.size,3,none⟩=some (.slice h l j)) (first|(go_keep;done)|exact y.out _ q.out.1|exact y.out _ U.out|exact y.out _ (au.out _ _))
    ((go_at_call 66;refine(aF.out w2 d _ C.out.2 a.out.2.2.2.1 x.out).mono ?_;rintro e w4 ⟨M,Z,rfl,D⟩;have U:Hid (w4.heap[w.heap.size]?=some (.cells #[ab k,ab i,ae t,.slice h l j] 30)):=(D.out.1.2 _ (aj _) (by omega) (by have f:=q.out.2.2;have s:=x.out.size;omega)).trans q.out.1;have E:Hid (w4.heap[w.heap.size+1]?=some (.cells #[ab 0,ab 0] 105)):=(D.out.1.2 (w.heap.size+1) (by omega) (by omega) (by have f:=q.out.2.2;have s:=x.out.size;omega)).trans q.out.2.1;have A:w4.cell? ⟨w.heap.size+1,0,none⟩=some (ab 0):=aq E.out 0;have B:w4.cell? ⟨w.heap.size+1,1,none⟩=some (ab 0):=aq E.out 1;have aa:=λz=>cO E.out z;have au:Hid (∀n b:Value,(uN w4 (w.heap.size+1) n b).heap[w.heap.size]?=some (.cells #[ab k,ab i,ae t,.slice h l j] 30)):=λn b=>(kH (by omega) n b).trans U.out))
   go_wp2_with fail;refine ar (v:=.tuple #[.agg #[ab M.1,ab M.2],ab Z]) (by simp[results,Tryz.results109,go_sem,A,B]) rfl ?_;obtain⟨G,H,I,Y,_⟩:=a.out;exact⟨M,Z,rfl,ah ⟨v,w0,w1,w2,d,d.drew,w4,G,H,I,Y,C.out.2,x.out,D.out.2,(bi w4 (w.heap.size+1) 0 _).trans (bi _ (w.heap.size+1) _ _) λ_ _ e=>e⟩⟩
end Go.Proofs.YtckamaoibonjcaaGreat
