/- What is proved here: plain facts and contracts that the claimed theorem stands on. No condition but those that each names. -/
import Derived.Test.YtnidfceinoiboaaGreatG20
namespace Go.Proofs.YtnidfceinoiboaaGreat
open Go.RowKit
set_option maxHeartbeats 2000000
set_option maxRecDepth 100000
def lS(N:Nat)(x:Tm N)(w:World)(e:Ending)(w':World):Prop:=∃y:Tm N,e=.returned (dg N y)/\Hid (Below w.heap.size w w'/\In w'.heap.size w' N y/\ch (λq=>w.heap.size<=q) N y/\aw N y N x=true)
theorem Eh(P N:Nat)(x:Tm (N+1))(v:Wd)(w:World)(K:Hid (∀w1,Below w.heap.size w w1->Calls Tryz.prog 76 #[.pointer (some ⟨P,1,none⟩),.agg #[.int .i64 v.1,.int .i64 v.2]] w1 λe w'=>∃y:Tm (N+1),e=.returned (.tuple #[.agg #[.int .i64 y.1.1,.int .i64 y.1.2.1,.string y.1.2.2,.slice y.2.1.1 y.2.2.length y.2.1.2],.int .i64 0])/\Hid (Below w1.heap.size w1 w'/\In w'.heap.size w' (N+1) y/\ch (λq=>w1.heap.size<=q) (N+1) y/\aw (N+1) y (N+1) x=true))):Calls Tryz.prog 50 #[.pointer (some ⟨P,0,none⟩),.agg #[.int .i64 v.1,.int .i64 v.2]] w (lS (N+1) x w):=by
 go_enter Tryz.func50,Tryz.ntmps50;go_wp2_with fail;have B:=ai (jz w (.cells #[.int .i64 v.1,.int .i64 v.2] 125) (.cells #[.int .i64 0,.int .i64 0,.string ⟨#[]⟩,.slice none 0 0] 30));have f:Hid (Below w.heap.size w ((w.alloc (.cells #[.int .i64 v.1,.int .i64 v.2] 125)).alloc (.cells #[.int .i64 0,.int .i64 0,.string ⟨#[]⟩,.slice none 0 0] 30))/\((w.alloc (.cells #[.int .i64 v.1,.int .i64 v.2] 125)).alloc (.cells #[.int .i64 0,.int .i64 0,.string ⟨#[]⟩,.slice none 0 0] 30)).heap.size=w.heap.size+1+1):=⟨by go_grown,by simp⟩;generalize M:(w.alloc _).alloc _=a;rw[M]at B f;clear M;have T:a.heap.size=w.heap.size+1+1:=f.out.2;have p:Hid (∀w',Below a.heap.size a w'->w'.cell? ⟨w.heap.size,0,none⟩=some (.int .i64 v.1)/\w'.cell? ⟨w.heap.size,1,none⟩=some (.int .i64 v.2)):=λw' S=>by
  have L:=(S.block w.heap.size (by omega)).trans B.out.1;exact⟨am L 0,am L 1⟩
 obtain⟨ak,al⟩:=p.out a (ah _ _);have z:Hid (Below a.heap.size a a.drew):=(ah _ _).drew;have A:Hid (Below a.heap.size a (a.alloc (.cells #[.int .i64 0,.int .i64 0,.string ⟨#[]⟩,.slice none 0 0] 30)).drew):=(show Below _ _ _ by go_grown);have F:Hid ((a.alloc (.cells #[.int .i64 0,.int .i64 0,.string ⟨#[]⟩,.slice none 0 0] 30)).drew.heap[a.heap.size]?=some (.cells #[.int .i64 0,.int .i64 0,.string ⟨#[]⟩,.slice none 0 0] 30)/\(a.alloc (.cells #[.int .i64 0,.int .i64 0,.string ⟨#[]⟩,.slice none 0 0] 30)).drew.heap.size=a.heap.size+1):=⟨pN a _ rfl,by simp⟩;clear T
 go_region_held3 (λw'=>w'.cell? ⟨w.heap.size,0,none⟩=some (.int .i64 v.1)/\w'.cell? ⟨w.heap.size,1,none⟩=some (.int .i64 v.2)) (first|(go_keep;done)|with_reducible exact p.out _ z.out|with_reducible exact p.out _ A.out|exact p.out _ h.out|exact E.out _|exact Q.out _ _ _ _|exact R.out _ _ _ _ _)
  ((first
   | (go_at_call 76;refine(K.out _ (f.out.1.trans (z.out.mono f.out.1.size))).mono ?_;rintro e w1 ⟨y,rfl,l⟩;have h:=ai (z.out.trans (l.out.1.mono z.out.size));have E:Hid (∀o:Obj,(w1.alloc o).cell? ⟨w.heap.size,0,none⟩=some (.int .i64 v.1)/\(w1.alloc o).cell? ⟨w.heap.size,1,none⟩=some (.int .i64 v.2)):=λo=>p.out _ (h.out.trans (aG.mono h.out.size));have R:Hid (∀(o:Obj)(m b c n:Value),(cP (w1.alloc o) w1.heap.size 0 m b c n).cell? ⟨w.heap.size,0,none⟩=some (.int .i64 v.1)/\(cP (w1.alloc o) w1.heap.size 0 m b c n).cell? ⟨w.heap.size,1,none⟩=some (.int .i64 v.2)):=λo m b c n=>by have aj:=h.out.size;have D:=f.out.2;exact⟨(bi (aO (by omega) m b c n) 0).trans (E.out o).1,(bi (aO (by omega) m b c n) 1).trans (E.out o).2⟩)
   | (go_at_call 76;refine(K.out _ (f.out.1.trans (A.out.mono f.out.1.size))).mono ?_;rintro e w1 ⟨y,rfl,l⟩;have h:=ai (A.out.trans (l.out.1.mono A.out.size));have r:=ai ((l.out.1.block _ (by have:=F.out.2;omega)).trans F.out.1);have ab:w1.cell? ⟨a.heap.size,0,none⟩=some (.int .i64 0):=am r.out 0;have ad:w1.cell? ⟨a.heap.size,1,none⟩=some (.int .i64 0):=am r.out 1;have ae:w1.cell? ⟨a.heap.size,2,none⟩=some (.string ⟨#[]⟩):=am r.out 2;have af:w1.cell? ⟨a.heap.size,3,none⟩=some (.slice none 0 0):=am r.out 3;have ag:=λu=>cG r.out u;have Q:Hid (∀m b c n:Value,(cP w1 a.heap.size 0 m b c n).cell? ⟨w.heap.size,0,none⟩=some (.int .i64 v.1)/\(cP w1 a.heap.size 0 m b c n).cell? ⟨w.heap.size,1,none⟩=some (.int .i64 v.2)):=λm b c n=>⟨(bi (aO (by have:=f.out.2;omega) m b c n) 0).trans (p.out _ h.out).1,(bi (aO (by have:=f.out.2;omega) m b c n) 1).trans (p.out _ h.out).2⟩)))
 ·have D:=f.out.2;have i:Hid ((w1.alloc (.cells #[.int .i64 y.1.1,.int .i64 y.1.2.1,.string y.1.2.2,.slice y.2.1.1 y.2.2.length y.2.1.2] 30)).heap[w.heap.size+1]?=some (.cells #[.int .i64 0,.int .i64 0,.string ⟨#[]⟩,.slice none 0 0] 30)):=(aG.block _ (by have:=h.out.size;omega)).trans ((h.out.block _ (by omega)).trans B.out.2);have k:Hid ((w1.alloc (.cells #[.int .i64 y.1.1,.int .i64 y.1.2.1,.string y.1.2.2,.slice y.2.1.1 y.2.2.length y.2.1.2] 30)).heap[w1.heap.size]?=some (.cells #[.int .i64 y.1.1,.int .i64 y.1.2.1,.string y.1.2.2,.slice y.2.1.1 y.2.2.length y.2.1.2] 30)):=ax _ _;have j:Hid (Below w.heap.size w (w1.alloc (.cells #[.int .i64 y.1.1,.int .i64 y.1.2.1,.string y.1.2.2,.slice y.2.1.1 y.2.2.length y.2.1.2] 30))/\In (w1.alloc (.cells #[.int .i64 y.1.1,.int .i64 y.1.2.1,.string y.1.2.2,.slice y.2.1.1 y.2.2.length y.2.1.2] 30)).heap.size (w1.alloc (.cells #[.int .i64 y.1.1,.int .i64 y.1.2.1,.string y.1.2.2,.slice y.2.1.1 y.2.2.length y.2.1.2] 30)) (N+1) y/\ch (λq=>w.heap.size+2<=q) (N+1) y):=⟨(f.out.1.trans (h.out.mono f.out.1.size)).trans (aG.mono (f.out.1.trans (h.out.mono f.out.1.size)).size),(l.out.2.1.below aG).mono (by simp),l.out.2.2.1.mono λq (C:a.heap.size<=q)=>by omega⟩;have s:Hid (∃d,d=(w1.alloc (.cells #[.int .i64 y.1.1,.int .i64 y.1.2.1,.string y.1.2.2,.slice y.2.1.1 y.2.2.length y.2.1.2] 30))):=⟨_,rfl⟩;obtain⟨d,t⟩:=s.out;rw[<-t]at i k j ⊢;clear t s D;have G:d.cell? ⟨w.heap.size+1,0,none⟩=some (.int .i64 0):=am i.out 0;have H:d.cell? ⟨w.heap.size+1,1,none⟩=some (.int .i64 0):=am i.out 1;have I:d.cell? ⟨w.heap.size+1,2,none⟩=some (.string ⟨#[]⟩):=am i.out 2;have J:d.cell? ⟨w.heap.size+1,3,none⟩=some (.slice none 0 0):=am i.out 3;have Z:=λu=>cG i.out u;have V:d.cell? ⟨w1.heap.size,0,none⟩=some (.int .i64 y.1.1):=am k.out 0;have W:d.cell? ⟨w1.heap.size,1,none⟩=some (.int .i64 y.1.2.1):=am k.out 1;have X:d.cell? ⟨w1.heap.size,2,none⟩=some (.string y.1.2.2):=am k.out 2;have Y:d.cell? ⟨w1.heap.size,3,none⟩=some (.slice y.2.1.1 y.2.2.length y.2.1.2):=am k.out 3;go_wp2_with fail;refine ao (v:=.agg #[.int .i64 y.1.1,.int .i64 y.1.2.1,.string y.1.2.2,.slice y.2.1.1 y.2.2.length y.2.1.2]) (by simp[results,Tryz.results50,go_sem,G,H,I,J]) rfl ?_;refine⟨y,rfl,dB j.out.1 (by omega),?_,j.out.2.2.mono λq C=>by omega,l.out.2.2.2⟩;have e:=In.off (w':=cP d (w.heap.size+1) 0 (.int .i64 y.1.1) (.int .i64 y.1.2.1) (.string y.1.2.2) (.slice y.2.1.1 y.2.2.length y.2.1.2)) (λb (O:w.heap.size+2<=b)=>aO (by omega) _ _ _ _) j.out.2.2 j.out.2.1;rw[<-aZ (w:=d) (g:=w.heap.size+1) (o:=0) (.int .i64 y.1.1) (.int .i64 y.1.2.1) (.string y.1.2.2) (.slice y.2.1.1 y.2.2.length y.2.1.2)]at e;exact e
 ·have D:=f.out.2;have U:=F.out.2;have i:Hid ((cP w1 a.heap.size 0 (.int .i64 y.1.1) (.int .i64 y.1.2.1) (.string y.1.2.2) (.slice y.2.1.1 y.2.2.length y.2.1.2)).heap[w.heap.size+1]?=some (.cells #[.int .i64 0,.int .i64 0,.string ⟨#[]⟩,.slice none 0 0] 30)):=(aO (by omega) _ _ _ _).trans ((h.out.block _ (by omega)).trans B.out.2)
  have k:Hid ((cP w1 a.heap.size 0 (.int .i64 y.1.1) (.int .i64 y.1.2.1) (.string y.1.2.2) (.slice y.2.1.1 y.2.2.length y.2.1.2)).heap[a.heap.size]?=some (.cells #[.int .i64 y.1.1,.int .i64 y.1.2.1,.string y.1.2.2,.slice y.2.1.1 y.2.2.length y.2.1.2] 30)):=(by
   show _=_
   simp[cP,World.setCell,bJ,r.out])
  have j:Hid (Below w.heap.size w (cP w1 a.heap.size 0 (.int .i64 y.1.1) (.int .i64 y.1.2.1) (.string y.1.2.2) (.slice y.2.1.1 y.2.2.length y.2.1.2))/\In (cP w1 a.heap.size 0 (.int .i64 y.1.1) (.int .i64 y.1.2.1) (.string y.1.2.2) (.slice y.2.1.1 y.2.2.length y.2.1.2)).heap.size (cP w1 a.heap.size 0 (.int .i64 y.1.1) (.int .i64 y.1.2.1) (.string y.1.2.2) (.slice y.2.1.1 y.2.2.length y.2.1.2)) (N+1) y/\ch (λq=>w.heap.size+2<=q) (N+1) y):=by
   refine⟨dB (f.out.1.trans (h.out.mono f.out.1.size)) (by omega),?_,l.out.2.2.1.mono λq C=>?_⟩
   ·rw[aZ];exact In.off (λb (O:(a.alloc (.cells #[.int .i64 0,.int .i64 0,.string ⟨#[]⟩,.slice none 0 0] 30)).drew.heap.size<=b)=>aO (by omega) _ _ _ _) l.out.2.2.1 l.out.2.1
   ·have aa:(a.alloc (.cells #[.int .i64 0,.int .i64 0,.string ⟨#[]⟩,.slice none 0 0] 30)).drew.heap.size<=q:=C;omega
  have s:Hid (∃d,d=(cP w1 a.heap.size 0 (.int .i64 y.1.1) (.int .i64 y.1.2.1) (.string y.1.2.2) (.slice y.2.1.1 y.2.2.length y.2.1.2))):=⟨_,rfl⟩;obtain⟨d,t⟩:=s.out;change Exit.then _ _ Exit.normal _ (cP w1 a.heap.size 0 (.int .i64 y.1.1) (.int .i64 y.1.2.1) (.string y.1.2.2) (.slice y.2.1.1 y.2.2.length y.2.1.2));rw[<-t]at i k j ⊢;clear t s D U;have G:d.cell? ⟨w.heap.size+1,0,none⟩=some (.int .i64 0):=am i.out 0;have H:d.cell? ⟨w.heap.size+1,1,none⟩=some (.int .i64 0):=am i.out 1;have I:d.cell? ⟨w.heap.size+1,2,none⟩=some (.string ⟨#[]⟩):=am i.out 2;have J:d.cell? ⟨w.heap.size+1,3,none⟩=some (.slice none 0 0):=am i.out 3;have Z:=λu=>cG i.out u;have V:d.cell? ⟨a.heap.size,0,none⟩=some (.int .i64 y.1.1):=am k.out 0;have W:d.cell? ⟨a.heap.size,1,none⟩=some (.int .i64 y.1.2.1):=am k.out 1;have X:d.cell? ⟨a.heap.size,2,none⟩=some (.string y.1.2.2):=am k.out 2;have Y:d.cell? ⟨a.heap.size,3,none⟩=some (.slice y.2.1.1 y.2.2.length y.2.1.2):=am k.out 3;go_wp2_with fail;refine ao (v:=.agg #[.int .i64 y.1.1,.int .i64 y.1.2.1,.string y.1.2.2,.slice y.2.1.1 y.2.2.length y.2.1.2]) (by simp[results,Tryz.results50,go_sem,G,H,I,J]) rfl ?_;refine⟨y,rfl,dB j.out.1 (by omega),?_,j.out.2.2.mono λq C=>by omega,l.out.2.2.2⟩;have e:=In.off (w':=cP d (w.heap.size+1) 0 (.int .i64 y.1.1) (.int .i64 y.1.2.1) (.string y.1.2.2) (.slice y.2.1.1 y.2.2.length y.2.1.2)) (λb (O:w.heap.size+2<=b)=>aO (by omega) _ _ _ _) j.out.2.2 j.out.2.1;rw[<-aZ (w:=d) (g:=w.heap.size+1) (o:=0) (.int .i64 y.1.1) (.int .i64 y.1.2.1) (.string y.1.2.2) (.slice y.2.1.1 y.2.2.length y.2.1.2)]at e;exact e
theorem nv{n:Nat}{x:Tm n}(a:bA n x=0):aB ⟨n,x⟩:=aJ.2 (bv.1 a).1
section
variable {base pb:Nat} {name:ByteArray} {room:Int} {N:Nat} {s:Tm (N+1)} {ms:List (Tm (N+1))} {xs:List (Wd×Tm (N+1))} {nk:Nat} {M:Nat->Prop} {w:World} {ws:List Wd} {nm:List ByteArray} {sv:Wd} {vs:List Wd} {ma:Option Addr} {mc:Nat} {Mh:Nat->Prop}
theorem cd.later(a:cd base pb name room (N+1) s ms xs nk M w ws nm sv vs ma mc Mh){w1:World}(c:Below w.heap.size w w1):cd base pb name room (N+1) s ms xs nk M w1 ws nm sv vs ma mc Mh:=by
 refine⟨(a.heap.later c).mono λb c=>c.1,?_,a.has,a.len,a.names,a.inM,a.mailM⟩;rcases a.mail with g|⟨e,k,f,h,i,d,j⟩
 ·exact ae g
 ·exact af ⟨e,k,f,h,i,(c.block e (aE.1 d).1).trans d,j⟩
theorem cd.read(a:cd base pb name room (N+1) s ms xs nk M w ws nm sv vs ma mc Mh)(k:nk<=50000){i:Nat}{v:Wd}{x:Tm (N+1)}(e:(sv::vs++xs.map (·.1))[i]?=some v)(c:(s::ms++xs.map (·.2))[i]?=some x):Calls Tryz.prog 50 #[.pointer (some ⟨pb,0,none⟩),.agg #[.int .i64 v.1,.int .i64 v.2]] w (lS (N+1) x w):=by
 obtain⟨f,l,g,m,n,o,p,q⟩:=a.has;have b:=g x (ay c);have j:=a.names;exact Eh pb N x v w λh d=>FN (N+1) x v base (PL pb name sv (.slice ma vs.length mc)) room ws nm Mh h ((a.later d).heap) (f.2 i v x e c) (nv b.1) b.2 (by omega) (by omega)
end
theorem BQ(e N:Nat)(x:Tm (N+1))(v:Wd)(w:World)(y:e<w.heap.size)(m:w.cell? ⟨e,5,none⟩=some (.int .i64 v.1))(n:w.cell? ⟨e,5+1,none⟩=some (.int .i64 v.2))(l:Hid (∀w1,Below w.heap.size w w1->Calls Tryz.prog 50 #[.pointer (some ⟨e,0,none⟩),.agg #[.int .i64 v.1,.int .i64 v.2]] w1 (lS (N+1) x w1))):Calls Tryz.prog 24 #[.pointer (some ⟨e,0,none⟩)] w (lS (N+1) x w):=by
 go_enter Tryz.func24,Tryz.ntmps24;go_wp2_with fail;refine(l.out _ aG).mono ?_;rintro f w1 ⟨a,rfl,d⟩;rw[show dg (N+1) a=.agg #[.int .i64 a.1.1,.int .i64 a.1.2.1,.string a.1.2.2,.slice a.2.1.1 a.2.2.length a.2.1.2]from rfl];have c:=ai (pA w _ _ _ _ _ d.out.1);have k:Hid (Below w.heap.size w w1):=aG.trans (d.out.1.mono (by simp));have q:w1.cell? ⟨w.heap.size,0,none⟩=some (.int .i64 0):=am c.out 0;have r:w1.cell? ⟨w.heap.size,1,none⟩=some (.int .i64 0):=am c.out 1;have s:w1.cell? ⟨w.heap.size,2,none⟩=some (.string ⟨#[]⟩):=am c.out 2;have t:w1.cell? ⟨w.heap.size,3,none⟩=some (.slice none 0 0):=am c.out 3;have z:=λp=>cG c.out p;clear m n;go_wp2_with fail;refine ao (v:=.agg #[.int .i64 a.1.1,.int .i64 a.1.2.1,.string a.1.2.2,.slice a.2.1.1 a.2.2.length a.2.1.2]) (by simp[results,Tryz.results24,go_sem,q,r,s,t]) rfl ?_;have i:ch (λh=>w.heap.size+1<=h) (N+1) a:=d.out.2.2.1.mono λh j=>by simpa using j
 refine⟨a,rfl,dB k.out (ag _),?_,i.mono λh j=>by omega,d.out.2.2.2⟩;have f:=In.off (w':=cP w1 w.heap.size 0 (.int .i64 a.1.1) (.int .i64 a.1.2.1) (.string a.1.2.2) (.slice a.2.1.1 a.2.2.length a.2.1.2)) (λb (u:w.heap.size+1<=b)=>aO (by omega) _ _ _ _) i d.out.2.1;rw[<-aZ (w:=w1) (g:=w.heap.size) (o:=0) (.int .i64 a.1.1) (.int .i64 a.1.2.1) (.string a.1.2.2) (.slice a.2.1.1 a.2.2.length a.2.1.2)]at f;exact f
theorem jd.word{Mh:Nat->Prop}{ma:Option Addr}{vs:List Wd}{n:Nat}{w:World}(b:jd Mh ma vs n w){i:Nat}{v:Wd}(c:vs[i]?=some v):∃g a,ma=some ⟨g,a,none⟩/\g<w.heap.size/\w.cell? ⟨g,a+i*2,none⟩=some (.int .i64 v.1)/\w.cell? ⟨g,a+i*2+1,none⟩=some (.int .i64 v.2):=by
 rcases b with⟨_,h,_⟩|⟨g,a,p,j,_,e,q,_,r,m⟩
 ·rw[h]at c;simp at c
 ·have s:=(aK.1 c).1;have f:∀(l:List Wd)(i:Nat)(v:Wd),l[i]?=some v->(aP l)[i*2]?=some (.int .i64 v.1)/\(aP l)[i*2+1]?=some (.int .i64 v.2):=by
   intro l
   induction l with
   | nil=>intro i v b;simp at b
   | cons o l ih=>
    intro i v b;cases i with
    | zero=>simp at b;subst b;simp[aP,oC]
    | succ i=>
     have:=ih i v (by simpa using b);simp only[aP,bj,oC]at this ⊢;rw[show (i+1)*2=i*2+2 by omega,show i*2+2+1=(i*2+1)+2 by omega];simpa using this
  have d:∀k,k<vs.length*2->w.cell? ⟨g,a+k,none⟩=(aP vs)[k]? :=λk d=>by
   rw[<-m,jP,if_pos d,jO,jL];simp[World.cell?,e]
  refine⟨g,a,j,(aE.1 e).1,?_,?_⟩
  ·rw[d (i*2) (by omega)];exact(f vs i v c).1
  ·rw[show a+i*2+1=a+(i*2+1) by omega,d (i*2+1) (by omega)];exact(f vs i v c).2
def B9(N:Nat)(ms:List (Tm N))(w:World)(e:Ending)(w':World):Prop:=∃(ys:List (Tm N))(L:Nat)(a:Option Addr)(c:Nat),e=.returned (.slice a L c)/\Hid (ys.length=L/\dQ N 0 w.heap.size ys (.slice a L c) w w'/\av (λa b=>aw N a N b) ys ms=true)
theorem DN(n N:Nat)(ms:List (Tm (N+1)))(vs:List Wd)(L:Nat)(ma:Option Addr)(ab:Nat)(w:World)(U:Hid (vs.length=L))(D:Hid (ms.length=L))(ag:L<=1000)(_hpw:n<w.heap.size)(ad:w.cell? ⟨n,7,none⟩=some (.slice ma L ab))(R:Hid (∀w1,Below w.heap.size w w1->∀(i:Nat)(v:Wd),vs[i]?=some v->∃g s,ma=some ⟨g,s,none⟩/\g<w.heap.size/\w1.cell? ⟨g,s+i*2,none⟩=some (.int .i64 v.1)/\w1.cell? ⟨g,s+i*2+1,none⟩=some (.int .i64 v.2)))(O:Hid (∀w1,Below w.heap.size w w1->∀(i:Nat)(v:Wd)(x:Tm (N+1)),vs[i]?=some v->ms[i]?=some x->Calls Tryz.prog 50 #[.pointer (some ⟨n,0,none⟩),.agg #[.int .i64 v.1,.int .i64 v.2]] w1 (lS (N+1) x w1))):Calls Tryz.prog 25 #[.pointer (some ⟨n,0,none⟩)] w (B9 (N+1) ms w):=by
 obtain⟨aa,G,J,K,M⟩:=bM gA;have o:=ai (⟨G,J,K,M⟩:_/\_/\_/\_);clear G J K M;go_enter Tryz.func25,Tryz.ntmps25;go_wp2_with fail;go_loopw [3,11] (λv i wr=>∃(k:Nat)(h:Option Addr)(c:Nat)(j:List (Tm (N+1))),k<=L/\i=.int .i64 k/\v=.slice h k c/\Hid (j.length=k/\dQ (N+1) 0 w.heap.size j (.slice h k c) w wr/\av (λh b=>aw (N+1) h (N+1) b) j (ms.take k)=true)) (λ_ i _=>L-(intOf i).toNat)
 case atStart=>exact⟨0,none,0,[],by omega,rfl,rfl,rfl,eN.nil _,by simp[av]⟩
 case round=>
  obtain⟨k,h,c,j,ak,rfl,rfl,e⟩:=hrel;have l:Hid (Below w.heap.size w wr):=e.out.2.1.1;by_cases H:k<L;rotate_left
  ·obtain rfl:k=L:=by omega
   go_wp2_with fail
   go_ret
   refine⟨j,k,h,c,rfl,e.out.1,e.out.2.1,?_⟩;have m:=e.out.2.2;rw[bk (by rw[D.out];omega)]at m;exact m
  ·obtain⟨v,z⟩:∃v,vs[k]?=some v:=⟨vs[k]'(by rw[U.out];exact H),aA _⟩;obtain⟨x,A⟩:∃x,ms[k]?=some x:=⟨ms[k]'(by rw[D.out];exact H),aA _⟩;have S:=ai A;have P:Hid (∀w1,Below w.heap.size w w1->Calls Tryz.prog 50 #[.pointer (some ⟨n,0,none⟩),.agg #[.int .i64 v.1,.int .i64 v.2]] w1 (lS (N+1) x w1)):=λw1 y=>O.out w1 y k v x z A;obtain⟨g,s,rfl,ah,T,d1⟩:=R.out wr l.out k v z;clear z A;have al:(0:Int)<=(k:Int):=by omega
   have am:(k:Int)<(L:Int):=by omega
   have aj:g<wr.heap.size:=by have:=l.out.size;omega
   go_wp2_with fail;refine(P.out _ (l.out.trans (aG.mono l.out.size))).mono ?_;rintro ae d ⟨a,rfl,p⟩;rw[show dg (N+1) a=.agg #[.int .i64 a.1.1,.int .i64 a.1.2.1,.string a.1.2.2,.slice a.2.1.1 a.2.2.length a.2.1.2]from rfl];have u:Hid (Below wr.heap.size wr d):=aG.trans (p.out.1.mono (by simp));have f:Hid (Below wr.heap.size wr (d.alloc (.cells #[.int .i64 a.1.1,.int .i64 a.1.2.1,.string a.1.2.2,.slice a.2.1.1 a.2.2.length a.2.1.2] 30))/\(d.alloc (.cells #[.int .i64 a.1.1,.int .i64 a.1.2.1,.string a.1.2.2,.slice a.2.1.1 a.2.2.length a.2.1.2] 30)).heap.size=d.heap.size+1/\(d.alloc (.cells #[.int .i64 a.1.1,.int .i64 a.1.2.1,.string a.1.2.2,.slice a.2.1.1 a.2.2.length a.2.1.2] 30)).heap[d.heap.size]?=some (.cells #[.int .i64 a.1.1,.int .i64 a.1.2.1,.string a.1.2.2,.slice a.2.1.1 a.2.2.length a.2.1.2] 30)/\In (d.alloc (.cells #[.int .i64 a.1.1,.int .i64 a.1.2.1,.string a.1.2.2,.slice a.2.1.1 a.2.2.length a.2.1.2] 30)).heap.size (d.alloc (.cells #[.int .i64 a.1.1,.int .i64 a.1.2.1,.string a.1.2.2,.slice a.2.1.1 a.2.2.length a.2.1.2] 30)) (N+1) a/\ch (λb=>b<0\/wr.heap.size<=b) (N+1) a):=by
    have m:Below d.heap.size d (d.alloc (.cells #[.int .i64 a.1.1,.int .i64 a.1.2.1,.string a.1.2.2,.slice a.2.1.1 a.2.2.length a.2.1.2] 30)):=aG;refine⟨u.out.trans (m.mono u.out.size),by simp,ax _ _,(p.out.2.1.below m).mono m.size,p.out.2.2.1.mono λb y=>af ?_⟩;have:wr.heap.size+1<=b:=by simpa using y
    omega
   have B:=λ(r q:Nat)(w4:World) Z X V=>ai (e.out.2.1.appAt (W:=(d.alloc (.cells #[.int .i64 a.1.1,.int .i64 a.1.2.1,.string a.1.2.2,.slice a.2.1.1 a.2.2.length a.2.1.2] 30))) (w4:=w4) (g:=r) (c:=q) e.out.1 (aD _) l.out.size f.out.1 a f.out.2.2.2.1 f.out.2.2.2.2 Z X V);have C:=ai (e.out.2.1.ownAt e.out.1 f.out.1);have an:w.heap.size<=d.heap.size:=by have:=l.out.size;have:=u.out.size;omega
   clear T d1;go_wp2_with (at_builtin;refine wpList_append_lies _ rfl _ _ 28 rfl w.heap.size 30 aa _ 4 56 Tryz.underlying28 o.out.1 o.out.2.1 o.out.2.2.1 o.out.2.2.2 rfl (by decide) (.slice h k c) k (j.flatMap (gq (N+1))) (by simp[Act.eval]) C.out ⟨d.heap.size,0,none⟩ 1 1 (gq (N+1) a) (by simp[Act.eval]) rfl (World.news_of_block (cs:= #[.int .i64 a.1.1,.int .i64 a.1.2.1,.string a.1.2.2,.slice a.2.1.1 a.2.2.length a.2.1.2]) (t:=30) (fr:=(0,0)) f.out.2.2.1) (sq _ _) (by decide) (by unfold maxLen;omega) (by omega) (by have:=f.out.2.1;omega) (d.heap.size+1) f.out.2.1 ?_;intro r q w4 I F E Y;have Q:=B r q w4 I F (by rw[f.out.2.1];exact E);clear I F E Y B C);go_roundw
   case rel=>
    refine⟨k+1,some ⟨r,0,none⟩,q,j++ [a],by omega,by go_num,rfl,by rw[aX,e.out.1];rfl,Q.out,?_⟩;rw[dw,S.out];exact ic _ _ _ _ _ e.out.2.2 p.out.2.2.2
   case measure=>simp[intOf];omega
section
variable {base pb:Nat} {name:ByteArray} {room:Int} {N:Nat} {s:Tm (N+1)} {ms:List (Tm (N+1))} {xs:List (Wd×Tm (N+1))} {nk:Nat} {M:Nat->Prop} {w:World} {ws:List Wd} {nm:List ByteArray} {sv:Wd} {vs:List Wd} {ma:Option Addr} {mc:Nat} {Mh:Nat->Prop}
theorem cd.state(a:cd base pb name room (N+1) s ms xs nk M w ws nm sv vs ma mc Mh)(f:nk<=50000):Calls Tryz.prog 24 #[.pointer (some ⟨pb,0,none⟩)] w (lS (N+1) s w):=by
 obtain⟨k,h,j,d,_⟩:=a.heap.box;obtain⟨_,b,c,_,_,g⟩:=PL.cells d;exact BQ pb N s sv w g b c λl e=>(a.later e).read f (i:=0) (by simp) (by simp)
theorem cd.mails(a:cd base pb name room (N+1) s ms xs nk M w ws nm sv vs ma mc Mh)(n:nk<=50000)(u:ms.length<=1000):Calls Tryz.prog 25 #[.pointer (some ⟨pb,0,none⟩)] w (B9 (N+1) ms w):=by
 obtain⟨y,v,x,k,_⟩:=a.heap.box;obtain⟨_,_,_,e,_,o⟩:=PL.cells k;have m:=a.len;refine DN pb N ms vs vs.length ma mc w rfl m.symm (by omega) o e (λt b i r c=>?_) (λt b i r z c p=>?_)
 ·obtain⟨j,q,f,d,g,h⟩:=a.mail.word c;exact⟨j,q,f,d,(aj b _ _ d).trans g,(aj b _ _ d).trans h⟩
 ·have l:=(aK.1 c).1;exact(a.later b).read n (i:=i+1) (by rw[fq,cT,cY l];exact c) (by rw[fq,cT,cY (by omega)];exact p)
end
theorem uB{base:Nat}{v:Value}{n m xc:Nat}{xs:List Value}{ps:List Wd}{xa:Option Addr}{w:World}(ty:TypeId)(f:w.ownsRow base 125 2 v n xs)(A:eK w ps xa)(j:ps.length=m)(G:n+m<=200000)(x:base<=w.heap.size):∃a d w',(Builtin.append_ #[116,116] ty #[v,.slice xa m xc]).run Tryz.prog w=.ok (.slice a (n+m) d) w'/\w'.ownsRow base 125 2 (.slice a (n+m) d) (n+m) (xs++aP ps)/\w.grownBy w' v.ownBlock/\((Value.slice a (n+m) d).ownBlock=v.ownBlock\/(Value.slice a (n+m) d).ownBlock=some w.heap.size):=by
 obtain⟨l,i,B,C,D⟩:=bM kj;have q:∀{w':World}{g:Value}{k:Nat}{F:List Value},w'.ownsRow base 125 2 g k F->∃o c,g=.slice o k c:=λe=>by
  rcases e.2 with⟨rfl,rfl⟩|⟨r,cap,p,rfl,_⟩
  ·exact⟨none,0,rfl⟩
  ·exact⟨_,cap,rfl⟩
 rcases A with rfl|⟨ad,rfl,y⟩
 ·obtain rfl:m=0:=j.symm;obtain⟨b,cap,E,z⟩:∃b cap,v=.slice b n cap/\n<=cap:=by
   rcases f.2 with⟨rfl,rfl⟩|⟨r,cap,p,rfl,_,_,e,_⟩
   ·exact⟨none,0,rfl,ag _⟩
   ·exact⟨_,cap,rfl,e⟩
  subst E;exact⟨b,cap,w,mx w _ _ ty _ _ l Tryz.underlying116 Tryz.underlying116 i b xa n cap xc z,by simpa [aP]using f,ir _ _,ae rfl⟩
 ·obtain⟨g,w',s,h,t,_,u⟩:=run_append_own_at (P:=Tryz.prog) w base 116 ty 125 l _ 2 16 Tryz.underlying116 i B C D rfl (by decide) _ n xs f ad m xc (aP ps) (by rw[bY,j]) y (ph _) (by unfold maxLen;omega) (by omega) x;obtain⟨a,d,rfl⟩:=q h;exact⟨a,d,w',s,h,t,u⟩
theorem uc{w:World}{d:Array Oper}{o:Oper}{a:Act}{K:Act->World->Prop}{Q:Exit->Act->World->Prop}{E:Prop}(k:o.guard=none)(s x:Operand)(p:o.op=.call {callee:=.builtin .append,args:= #[s,x],argTypes:= #[116,116]}){base:Nat}{v:Value}{n m xc:Nat}{xs:List Value}{ps:List Wd}{xa:Option Addr}(t:a.eval s=v)(z:a.eval x=.slice xa m xc)(q:w.ownsRow base 125 2 v n xs)(u:eK w ps xa)(l:ps.length=m)(h:n+m<=200000)(j:base<=w.heap.size)(i:∀b c w',w'.ownsRow base 125 2 (.slice b (n+m) c) (n+m) (xs++aP ps)->w.grownBy w' v.ownBlock->((Value.slice b (n+m) c).ownBlock=v.ownBlock\/(Value.slice b (n+m) c).ownBlock=some w.heap.size)->K (a.put o.dst (.slice b (n+m) c)) w'):if Region.wanted o (yielded d a.tmps)=true then Oper.wp Tryz.prog o a w K Q else E:=by
 have y:Region.wanted o (yielded d a.tmps)=true:=by simp[Region.wanted,k]
 rw[if_pos y];obtain⟨b,c,w',r,e,f,g⟩:=uB (xc:=xc) o.type q u l h j;unfold Oper.wp execOp;simp only[p,resolve,invoke,builtin,Sem.run_bind,Sem.run_pure,lP,lK,aH,bQ,t,z,r];exact i _ _ _ e f g
theorem dy.turn{base d:Nat}{name:ByteArray}{g h:Wd}{mv j:Value}{room:Int}{ws:List Wd}{nm:List ByteArray}{M:Nat->Prop}{w w':World}(l:dy base (PL d name g mv) room ws nm M w)(k:bD (λb=>b=d) w w')(q:∀tv lv mp:Value,w.heap[d]?=some (.cells #[.string name,.int .i64 room,tv,lv,mp,.int .i64 g.1,.int .i64 g.2,mv] 127)->w'.heap[d]?=some (.cells #[.string name,.int .i64 room,tv,lv,mp,.int .i64 h.1,.int .i64 h.2,j] 127)):dy base (PL d name h j) room ws nm M w':=by
 obtain⟨tv,lv,mp,e,i,f,m,n,o,p⟩:=l;refine⟨tv,lv,mp,⟨⟨rfl,af rfl⟩,q tv lv mp e.2⟩,dJ i k (λb a c=>?_),f.kept k (λb a c=>?_) (λb a c=>?_),m,n,o,p⟩
 ·subst c;exact mh i e (by decide) a
 ·subst c;exact mh f.1 e (by decide) a
 ·subst c;exact sg f e a
theorem jd.words{Mh:Nat->Prop}{ma:Option Addr}{vs:List Wd}{k:Nat}{w:World}(j:jd Mh ma vs k w):eK w vs ma:=by
 rcases j with⟨_,b,_⟩|⟨c,d,l,g,_,h,m,_,n,i⟩
 ·exact ae b
 ·refine af ⟨⟨c,d,none⟩,g,λf p e=>?_⟩;have o:=(aK.1 e).1;have a:=e;rw[<-i,jP]at a;split at a
  ·rw[jO,jL]at a;have b:(⟨c,d,none⟩:Addr).add f=⟨c,d+f,none⟩:=by unfold Addr.add;split<;>simp[*]
   rw[b];simp[World.cell?,h,a]
  ·cases a
theorem jq.tidied{N:Nat}{ws:List Wd}{nm:List ByteArray}{room:Int}{b:List Wd}{a:List (Tm N)}(q:jq N ws nm room b a):jq N (jh ws N b).2.1 nm room (jh ws N b).1 a/\((jh ws N b).2.1.length:Int)=(a.map (sz N)).sum/\(jh ws N b).1.length=b.length:=by
 obtain⟨k,w,l,z,A,x,y,m⟩:=q;obtain⟨n,o,p⟩:=By m k w;have i:∀c∈a,aB ⟨N,c⟩:=λc f=>nv (l c f).1;have j:=mS (λg ws nm e=>fZ N g ws nm e) a [] nm i;have t:=yO N a [] nm;have r:=tp (λg ws nm e=>wJ N g ws nm e) a [] nm i;have h:=f9 (aN N) a [] nm;rw[p]at j;rw[n,o];simp only[jQ]at t;refine⟨⟨⟨h,λv C c u f=>?_⟩,r.1,l,by omega,by omega,x,y,m⟩,by omega,by rw[h,k.1]⟩;obtain⟨B,d,s⟩:=j v c f;rw[u]at d;injection d with d;rw[d];exact s
theorem lF(w:World){g q:Nat}(b:g≠q)(o:Nat)(v:Value)(j:Nat):(w.setCell ⟨q,o,none⟩ v).cell? ⟨g,j,none⟩=w.cell? ⟨g,j,none⟩:=by
 refine bi ?_ j;have c:¬q=g:=λa=>b a.symm;simp[World.setCell,bJ,c]
def tz(g L:Nat):Option Addr:=if L=0 then some ⟨g,0,none⟩else some ⟨g,2,none⟩
def Af(w:World)(a:Nat)(b:Wd)(mv:Value):World:=((w.setCell ⟨a,5,none⟩ (.int .i64 b.1)).setCell ⟨a,5+1,none⟩ (.int .i64 b.2)).setCell ⟨a,7,none⟩ mv
theorem EC(d:Nat)(f:Wd)(vs:List Wd)(L:Nat)(ma:Option Addr)(t:Nat)(w:World)(Fin:Nat->Wd->World->World->Prop)(Q:Hid (vs.length=L))(W:L<=1000)(q:Hid (∀w1,Below w.heap.size w w1->w1.cell? ⟨d,5,none⟩=some (.int .i64 f.1)/\w1.cell? ⟨d,5+1,none⟩=some (.int .i64 f.2)/\w1.cell? ⟨d,7,none⟩=some (.slice ma L t)))(M:Hid (∀w1,Below w.heap.size w w1->eK w1 vs ma))(G:Hid (∀w1,Below w.heap.size w w1->∀(a:Option Addr)(c:Nat),w1.ownsRow w.heap.size 125 2 (.slice a (1+L) c) (1+L) (aP (f::vs))->Calls Tryz.prog 151 #[.pointer (some ⟨d,1,none⟩),.slice a (1+L) c] w1 λe w'=>∃(g:Nat)(h:Wd),e=.returned (.tuple #[.slice (some ⟨g,0,none⟩) (1+L) (1+L),.int .i64 0])/\Hid ((w'.cell? ⟨g,0,none⟩=some (.int .i64 h.1)/\w'.cell? ⟨g,1,none⟩=some (.int .i64 h.2))/\g≠d/\(∃B C D,w'.cell? ⟨d,5,none⟩=some B/\w'.cell? ⟨d,5+1,none⟩=some C/\w'.cell? ⟨d,7,none⟩=some D)/\(∀j,w'.frozen? ⟨d,j,none⟩=false)/\Fin g h w1 w'))):Calls Tryz.prog 128 #[.pointer (some ⟨d,0,none⟩)] w λe w'=>e=.returned (.tuple #[])/\∃(g:Nat)(h:Wd)(w1 w2:World),w'=(Af w2 d h (.slice (tz g L) L L)).drew/\Hid (Below w.heap.size w w1/\Fin g h w1 w2):=by
 obtain⟨N,O,P⟩:=q.out w (ah _ _);have H:Hid (Below w.heap.size w w.drew):=(ah _ _).drew;have k:Hid (Below w.heap.size w (w.alloc (.cells #[.int .i64 f.1,.int .i64 f.2] 125)).drew/\(w.alloc (.cells #[.int .i64 f.1,.int .i64 f.2] 125)).drew.ownsRow w.heap.size 125 2 (.slice (some ⟨w.heap.size,0,none⟩) 1 1) 1 (oC f)):=by
  refine⟨by go_grown,rfl,af ⟨w.heap.size,1, #[.int .i64 f.1,.int .i64 f.2],rfl,ag _,pN w _ rfl,ag _,by unfold maxLen;omega,rfl,rfl⟩⟩
 go_enter Tryz.func128,Tryz.ntmps128;go_wp2_with fail
 go_region_held3 (λw'=>w'.cell? ⟨d,5,none⟩=some (.int .i64 f.1)/\w'.cell? ⟨d,5+1,none⟩=some (.int .i64 f.2)/\w'.cell? ⟨d,7,none⟩=some (.slice ma L t)) (first|(go_keep;done)|with_reducible exact q.out _ H.out|with_reducible exact q.out _ k.out.1|exact q.out _ r.out)
  ((refine uc rfl _ _ rfl (base:=w.heap.size) (v:=.slice (some ⟨w.heap.size,0,none⟩) 1 1) (n:=1) (m:=L) (xc:=t) (xs:=oC f) (ps:=vs) (xa:=ma) (by simp[Act.eval]) (by simp[Act.eval]) k.out.2 (M.out _ k.out.1) Q.out (by omega) (by have:=k.out.1.size;exact this) ?_;intro u x w2 A o R;have r:Hid (Below w.heap.size w w2):=(k.out.1.trans ⟨o.os,o.tape,o.output,o.size,λb S=>o.block b (aL S k.out.1.size) (λe=>by simp[Value.ownBlock]at e;omega)⟩);have K:=ai (show w2.ownsRow w.heap.size 125 2 (.slice u (1+L) x) (1+L) (aP (f::vs))from A);clear A o R))
 have F:=ai (G.out w2 r.out u x K.out);clear N O P;go_wp2_with fail;refine F.out.mono ?_;rintro e i ⟨g,h,rfl,E⟩;obtain⟨⟨y,z⟩,l,⟨B,C,D,T,U,V⟩,X,s⟩:=E.out;replace s:=ai s;have Z:(0:Int)<1+(L:Int):=by omega
 have aa:(1:Int)<=1+(L:Int):=by omega
 have Y:d≠g:=λe=>l e.symm;have I:Hid (∀a b:Value,((i.setCell ⟨d,5,none⟩ a).setCell ⟨d,5+1,none⟩ b).cell? ⟨g,0,none⟩=some (.int .i64 h.1)/\((i.setCell ⟨d,5,none⟩ a).setCell ⟨d,5+1,none⟩ b).cell? ⟨g,1,none⟩=some (.int .i64 h.2)):=λa b=>by
  have p:∀j,((i.setCell ⟨d,5,none⟩ a).setCell ⟨d,5+1,none⟩ b).cell? ⟨g,j,none⟩=i.cell? ⟨g,j,none⟩:=λj=>(lF _ l _ _ j).trans (lF _ l _ _ j);exact⟨(p _).trans y,(p _).trans z⟩
 have J:Hid (∀a b c:Value,(((i.setCell ⟨d,5,none⟩ a).setCell ⟨d,5+1,none⟩ b).setCell ⟨d,7,none⟩ c).cell? ⟨g,0,none⟩=some (.int .i64 h.1)/\(((i.setCell ⟨d,5,none⟩ a).setCell ⟨d,5+1,none⟩ b).setCell ⟨d,7,none⟩ c).cell? ⟨g,1,none⟩=some (.int .i64 h.2)):=λa b c=>by
  have p:∀j,(((i.setCell ⟨d,5,none⟩ a).setCell ⟨d,5+1,none⟩ b).setCell ⟨d,7,none⟩ c).cell? ⟨g,j,none⟩=i.cell? ⟨g,j,none⟩:=λj=>(lF _ l _ _ j).trans ((lF _ l _ _ j).trans (lF _ l _ _ j));exact⟨(p _).trans y,(p _).trans z⟩
 go_wp2_with fail;go_region_held3 (λw'=>w'.cell? ⟨g,0,none⟩=some (.int .i64 h.1)/\w'.cell? ⟨g,1,none⟩=some (.int .i64 h.2)) (first|(go_keep;done)|exact I.out _ _|exact J.out _ _ _) (fail);exact dP (v:=.tuple #[]) (by simp[results]) rfl ⟨rfl,g,h,w2,i,rfl,r.out,s.out⟩
theorem jq.front{N:Nat}{ws:List Wd}{nm:List ByteArray}{room:Int}{g t:List Wd}{e f:List (Tm N)}(m:jq N ws nm room (g++t) (e++f))(n:g.length=e.length):jq N ws nm room g e:=by
 obtain⟨i,d,j,k,p,q,r,s⟩:=m;refine⟨⟨n,λo u b h c=>i.2 o u b ?_ ?_⟩,?_,λb c=>j b (lL _ c),?_,p,q,r,s⟩
 ·rw[cY (aK.1 h).1];exact h
 ·rw[cY (aK.1 c).1];exact c
 ·rw[jM]at d;exact(eH.1 d).1
 ·rw[ft,List.sum_append]at k;have w:(0:Int)<=(f.map (sz N)).sum:=by
   clear i d k
   induction f with
   | nil=>simp
   | cons b l ih=>
    have x:=ih λv a=>j v (by simp only[di,br]at a ⊢;rcases a with a|a<;>simp[a]);have y:=(eC N b).1;simp only[aH,bt];omega
  omega
theorem CR{N:Nat}:(l:List (Tm N))->(l.map λy=>1+sz N y).sum=l.length+(l.map (sz N)).sum
 | []=>by simp
 | y::l=>by
  have a:=CR l;simp only[aH,bt,aW,a];omega
theorem vn{N:Nat}:(l:List (Tm N))->(∀y∈l,aB ⟨N,y⟩)->((l.flatMap λy=>aq N y).length:Int)<=(l.map λy=>1+sz N y).sum
 | [],_=>by simp
 | y::l,h=>by
  have b:=vn l λz a=>h z (by simp[a]);have c:=tF N y (h y (by simp));simp only[bj,aX,aH,bt];omega
theorem jq.roots{N:Nat}{ws:List Wd}{nm:List ByteArray}{room:Int}{d:List Wd}{a:List (Tm N)}(h:jq N ws nm room d a)(i:d.length<=1000):Ca ws nm N d a:=by
 obtain⟨f,m,g,n,o,p,q,r⟩:=h;have e:∀b∈a,aB ⟨N,b⟩:=λb c=>nv (g b c).1;have j:=CR a;have k:=vn a e;have l:=f.1;exact⟨f,e,λb c=>(g b c).2,by omega,by omega,i⟩
theorem Bm{base n c:Nat}{a:Option Addr}{vs:List Wd}{w:World}(e:w.ownsRow base 125 2 (.slice a n c) n (aP vs))(s:0<n):ew w vs a/\∀b o,a=some ⟨b,o,none⟩->b<w.heap.size:=by
 rcases e.2 with⟨d,q⟩|⟨h,cap,p,d,t,i,_⟩
 ·omega
 ·injection d with f r g;subst f g;have j:=(aE.1 i).1;refine⟨af ⟨h,0,rfl,j,λl m k=>?_⟩,λb o d=>?_⟩
  ·have:=ij e l m k;rw[cU];exact this
  ·injection d with d;injection d with d;omega
section
variable {base pb:Nat} {name:ByteArray} {room:Int} {N:Nat} {s:Tm (N+1)} {ms:List (Tm (N+1))} {xs:List (Wd×Tm (N+1))} {nk:Nat} {M:Nat->Prop} {w:World} {ws:List Wd} {nm:List ByteArray} {sv:Wd} {vs:List Wd} {ma:Option Addr} {mc:Nat} {Mh:Nat->Prop}
theorem cd.front(a:cd base pb name room (N+1) s ms xs nk M w ws nm sv vs ma mc Mh):jq (N+1) ws nm room (sv::vs) (s::ms):=
 jq.front a.has (by simp[a.len])
theorem BX{w:World}{pb:Nat}{c0 a b c d e f g:Value}{t:TypeId}(sv:Wd)(mv:Value)(h:w.heap[pb]?=some (.cells #[c0,a,b,c,d,e,f,g] t)):(Af w pb sv mv).heap[pb]?=some (.cells #[c0,a,b,c,d,.int .i64 sv.1,.int .i64 sv.2,mv] t):=by
 unfold Af World.setCell;simp[bJ,h]
theorem EJ(w:World)(pb:Nat)(sv:Wd)(mv:Value):bD (λb=>b=pb) w (Af w pb sv mv).drew:=by
 have c:=aY w pb 5 (.int .i64 sv.1);have d:=aY (w.setCell ⟨pb,5,none⟩ (.int .i64 sv.1)) pb (5+1) (.int .i64 sv.2);have e:=aY ((w.setCell ⟨pb,5,none⟩ (.int .i64 sv.1)).setCell ⟨pb,5+1,none⟩ (.int .i64 sv.2)) pb 7 mv;have a:=(c.trans d λ_ _ k=>k).trans e λ_ _ k=>k;exact⟨a.os,a.tape,a.output,a.size,a.block⟩
def Ie(base pb:Nat)(name:ByteArray)(room:Int)(N:Nat)(s:Tm N)(ms:List (Tm N))(nk:Nat)(M:Nat->Prop)(nm:List ByteArray)(w:World)(e:Ending)(w':World):Prop:=
 e=.returned (.tuple #[])/\∃c g a f d,cd base pb name room N s ms [] nk (λb=>M b\/w.heap.size<=b) w' c nm g a f a.length d/\Hid (bD M w w'/\(c.length:Int)=((s::ms).map (sz N)).sum)
theorem cd.tidy(e:cd base pb name room (N+1) s ms xs nk M w ws nm sv vs ma mc Mh)(aK:nk<=50000)(aD:ms.length<=999)(aF:base<=w.heap.size):Calls Tryz.prog 128 #[.pointer (some ⟨pb,0,none⟩)] w (Ie base pb name room (N+1) s ms nk M nm w):=by
 have C:=e.front;have aI:=e.len;have am:=e.names;have ap:=C.roots (by simp only[aW];omega);obtain⟨L,ar,v⟩:=C.tidied;obtain⟨q,j,B⟩:∃q j,(jh ws (N+1) (sv::vs)).1=q::j:=by
  cases u:(jh ws (N+1) (sv::vs)).1 with
  | nil=>rw[u]at v;simp at v
  | cons n l=>exact⟨n,l,rfl⟩
 rw[B]at L v;simp only[aW]at v;have I:j.length=vs.length:=by omega
 obtain⟨_,_,_,_,aM,_,aN,_⟩:=C;refine(EC pb sv vs vs.length ma mc w (λa m g r=>m=q/\vO base (PL pb name sv (.slice ma vs.length mc)) room (jh ws (N+1) (sv::vs)) nm Mh a g r) rfl (by omega) ?_ ?_ ?_).mono ?_
 ·intro g f;obtain⟨R,P,av,z,_⟩:=(e.later f).heap.box;obtain⟨_,U,V,W,_⟩:=PL.cells z;exact⟨U,V,W⟩
 ·intro g f;exact(e.later f).mail.words
 ·intro g f n c an;have aq:=f.size;obtain⟨aj,al⟩:=Bm an (by omega);have ak:(sv::vs).length=1+vs.length:=by simp only[aW];omega
  have t:=wH (N+1) (s::ms) (sv::vs) n c base (PL pb name sv (.slice ma vs.length mc)) room ws nm Mh g (e.later f).heap ap aj al (by omega) (by omega) (by omega);rw[ak]at t;refine t.mono ?_;rintro d r ⟨a,rfl,G⟩;have T:=G.out;obtain⟨E,Q,F,ax,ay,x⟩:=T;obtain⟨R,P,av,z,_⟩:=E.box;obtain⟨_,X,Y,Z,aa,aA⟩:=PL.cells z;obtain⟨az,au,aw,A,_⟩:=(e.later f).heap.box;have ao:pb<g.heap.size:=(PL.cells A).2.2.2.2.2;refine⟨a,q,rfl,⟨?_,by omega,⟨_,_,_,X,Y,Z⟩,aa,rfl,G.out⟩⟩;rw[B]at F;rcases F with d|⟨b,o,d,aG,ah⟩
  ·cases d
  ·injection d with d;injection d with k p;subst k p;have:=ah 0 q rfl;simpa using this
 ·rintro d aO ⟨rfl,a,m,g,r,rfl,S⟩;obtain⟨f,rfl,E,Q,F,ax,ay,len,x⟩:=S.out;have aq:=f.size;obtain⟨az,au,aw,A,_⟩:=(e.later f).heap.box;have ao:pb<g.heap.size:=(PL.cells A).2.2.2.2.2;have ad:Mh pb:=by
   obtain⟨_,_,_,_,_,_,i,_⟩:=e.heap;exact i
  have D:=EJ r pb m (.slice (tz a vs.length) vs.length vs.length);rw[B]at x;have ai:¬a=pb:=by omega
  refine⟨rfl,(jh ws (N+1) (sv::vs)).2.1,m,j,tz a vs.length,λb=>(Mh b\/g.heap.size<=b)/\b≠a,⟨?_,?_,?_,by omega,am,?_,?_⟩,?_⟩
  ·rw[I];exact E.turn D λR P mp t=>BX m _ t
  ·rw[I];rcases x.2 with⟨d,aB⟩|⟨aC,cap,y,d,_,u,aH,aJ,aL,O⟩
   ·cases d
   ·injection d with k p ab;injection k with k;injection k with k;subst k ab;have J:(Af r pb m (.slice (tz a vs.length) vs.length vs.length)).drew.heap[a]?=some (.cells y 125 (0,0)):=(D.block a (aE.1 u).1 ai).trans u;have K:=x.1;rw[bY]at K;simp only[aW]at K;refine af ?_;by_cases H:vs.length=0
    ·refine⟨a,0,y,by simp[tz,H],by simp,J,by omega,by unfold maxLen;omega,by omega,?_⟩;have:j=[]:=List.length_eq_zero_iff.1 (by omega);simp[this,aP]
    ·refine⟨a,2,y,by simp[tz,H],by simp,J,by omega,by omega,by omega,?_⟩;have d:len*2=2+j.length*2:=by omega
     rw[d]at O;have p:=congrArg (List.drop 2) O;rw[List.drop_take,show 2+j.length*2-2=j.length*2 from by omega]at p;exact p
  ·simpa using L
  ·intro b ag;rcases ag.1 with i|i
   ·exact ae (e.inM b i)
   ·exact af (by omega)
  ·intro n h;have:n.block=a:=by
    unfold tz at h;split at h
    ·injection h with h;rw[<-h]
    ·injection h with h;rw[<-h]
   exact af (by omega)
  ·refine⟨?_,ar⟩;refine bD.trans ((aR f M).trans (Q.mono e.inM) λ_ _ i=>i) D λb _ i=>?_;rw[i];exact e.inM pb ad
end
def Up(n:Nat)(w0 w1:World):Prop:=w0.heap.size<=w1.heap.size/\∀b,n<=b->b<n+3->b<w0.heap.size->w1.heap[b]?=w0.heap[b]?
theorem tX(w:World){b q:Nat}(c:b≠q)(o:Nat)(v:Value):(w.setCell ⟨q,o,none⟩ v).heap[b]?=w.heap[b]? :=by
 have d:¬q=b:=λa=>c a.symm;simp[World.setCell,bJ,d]
def tN(w:World)(g:Nat)(a b:Value):World:=(w.setCell ⟨g,0,none⟩ a).setCell ⟨g,0+1,none⟩ b
theorem kt{w:World}{g b:Nat}(a:b≠g)(x y:Value):(tN w g x y).heap[b]?=w.heap[b]? :=(tX _ a _ _).trans (tX _ a _ _)
theorem Ec(w:World)(g:Nat)(x y:Value):(tN w g x y).heap.size=w.heap.size:=by simp[tN,World.setCell]
theorem zx(aj:Nat)(k i:Int)(t:ByteArray)(h:Option Addr)(l j:Nat)(w:World)(O:Wd->Int->World->World->Prop)(ak:World->World->Prop)(ay:Wd->Int->World->World->Prop)(aA:Hid (∀w0,Below w.heap.size w w0->Calls Tryz.prog 56 #[.pointer (some ⟨aj,1,none⟩),.agg #[.int .i64 k,.int .i64 i,.string t,.slice h l j]] w0 λe w1=>∃(v:Wd)(g:Int),e=.returned (.tuple #[.agg #[.int .i64 v.1,.int .i64 v.2],.int .i64 g])/\Hid (Up w.heap.size w0 w1/\O v g w0 w1)))(aC:Hid (∀v1 w0 w1 w2,Below w.heap.size w w0->O v1 6 w0 w1->bD (λb=>w.heap.size<=b/\b<w0.heap.size) w1 w2->w.heap.size+3<=w2.heap.size->Calls Tryz.prog 128 #[.pointer (some ⟨aj,0,none⟩)] w2 λe d=>e=.returned (.tuple #[])/\Hid (Up w.heap.size w2 d/\ak w2 d)))(aB:Hid (∀w2 d N,ak w2 d->w.heap.size+3<=w2.heap.size->Below d.heap.size d N->Calls Tryz.prog 56 #[.pointer (some ⟨aj,1,none⟩),.agg #[.int .i64 k,.int .i64 i,.string t,.slice h l j]] N λe w4=>∃(v:Wd)(g:Int),e=.returned (.tuple #[.agg #[.int .i64 v.1,.int .i64 v.2],.int .i64 g])/\Hid (Up w.heap.size N w4/\ay v g N w4))):Calls Tryz.prog 95 #[.pointer (some ⟨aj,0,none⟩),.agg #[.int .i64 k,.int .i64 i,.string t,.slice h l j]] w λe w'=>∃(v:Wd)(g:Int),e=.returned (.tuple #[.agg #[.int .i64 v.1,.int .i64 v.2],.int .i64 g])/\ ((g≠6/\∃w0 w1,Below w.heap.size w w0/\O v g w0 w1/\bD (λb=>w.heap.size<=b/\b<w0.heap.size) w1 w')\/∃v1 w0 w1 w2 d N w4,Below w.heap.size w w0/\O v1 6 w0 w1/\bD (λb=>w.heap.size<=b/\b<w0.heap.size) w1 w2/\w.heap.size+3<=w2.heap.size/\ak w2 d/\Below d.heap.size d N/\ay v g N w4/\bD (λb=>b=w.heap.size+1) w4 w'):=by
 go_enter Tryz.func95,Tryz.ntmps95;go_wp2_with fail;have R:=ai (jz w (.cells #[.int .i64 k,.int .i64 i,.string t,.slice h l j] 30) (.cells #[.int .i64 0,.int .i64 0] 125));have m:Hid (Below w.heap.size w ((w.alloc (.cells #[.int .i64 k,.int .i64 i,.string t,.slice h l j] 30)).alloc (.cells #[.int .i64 0,.int .i64 0] 125))/\((w.alloc (.cells #[.int .i64 k,.int .i64 i,.string t,.slice h l j] 30)).alloc (.cells #[.int .i64 0,.int .i64 0] 125)).heap.size=w.heap.size+1+1):=⟨by go_grown,by simp⟩;generalize aD:(w.alloc _).alloc _=a;rw[aD]at R m;clear aD;have F:Hid (∀w':World,w'.heap[w.heap.size]?=a.heap[w.heap.size]? ->w'.cell? ⟨w.heap.size,0,none⟩=some (.int .i64 k)/\w'.cell? ⟨w.heap.size,1,none⟩=some (.int .i64 i)/\w'.cell? ⟨w.heap.size,2,none⟩=some (.string t)/\w'.cell? ⟨w.heap.size,3,none⟩=some (.slice h l j)):=λw' T=>by
  have f:=T.trans R.out.1;exact⟨am f 0,am f 1,am f 2,am f 3⟩
 obtain⟨aO,aP,aQ,aS⟩:=F.out a rfl;have u:Hid (Below a.heap.size a a.drew/\a.drew.heap[w.heap.size]?=a.heap[w.heap.size]?):=⟨(ah _ _).drew,rfl⟩;have Q:Hid (Below a.heap.size a (a.alloc (.cells #[.int .i64 0,.int .i64 0] 125)).drew/\(a.alloc (.cells #[.int .i64 0,.int .i64 0] 125)).drew.heap[w.heap.size]?=a.heap[w.heap.size]?):=by
  have T:Below a.heap.size a (a.alloc (.cells #[.int .i64 0,.int .i64 0] 125)).drew:=by go_grown
  exact⟨T,T.block _ (by have:=m.out.2;omega)⟩
 have ap:Hid ((a.alloc (.cells #[.int .i64 0,.int .i64 0] 125)).drew.heap[a.heap.size]?=some (.cells #[.int .i64 0,.int .i64 0] 125)/\(a.alloc (.cells #[.int .i64 0,.int .i64 0] 125)).drew.heap.size=a.heap.size+1):=⟨pN a _ rfl,by simp⟩
 go_region_held3 (λw'=>w'.cell? ⟨w.heap.size,0,none⟩=some (.int .i64 k)/\w'.cell? ⟨w.heap.size,1,none⟩=some (.int .i64 i)/\w'.cell? ⟨w.heap.size,2,none⟩=some (.string t)/\w'.cell? ⟨w.heap.size,3,none⟩=some (.slice h l j)) (first|(go_keep;done)|with_reducible exact F.out _ u.out.2|with_reducible exact F.out _ Q.out.2|exact F.out _ P.out|exact F.out _ (ab.out _)|exact F.out _ (al.out _ _)|exact F.out _ (az.out _ _ _))
  ((first
   | (go_at_call 56;refine(aA.out _ (m.out.1.trans (u.out.1.mono m.out.1.size))).mono ?_;rintro e w1 ⟨v,g,rfl,p⟩;have P:Hid (w1.heap[w.heap.size]?=a.heap[w.heap.size]?):=(p.out.1.2 _ (ag _) (by omega) (by have f:=u.out.1.size;have s:=m.out.2;omega)).trans u.out.2;have ab:Hid (∀o:Obj,(w1.alloc o).heap[w.heap.size]?=a.heap[w.heap.size]?):=λo=>(fO w1 o (by have f:=p.out.1.1;have s:=u.out.1.size;have ad:=m.out.2;omega)).trans P.out;have az:Hid (∀(o:Obj)(n b:Value),(tN (w1.alloc o) w1.heap.size n b).heap[w.heap.size]?=a.heap[w.heap.size]?):=λo n b=>(kt (by have f:=p.out.1.1;have s:=u.out.1.size;have ad:=m.out.2;omega) n b).trans (ab.out o))
   | (go_at_call 56;refine(aA.out _ (m.out.1.trans (Q.out.1.mono m.out.1.size))).mono ?_;rintro e w1 ⟨v,g,rfl,p⟩;have P:Hid (w1.heap[w.heap.size]?=a.heap[w.heap.size]?):=(p.out.1.2 _ (ag _) (by omega) (by have f:=Q.out.1.size;have s:=m.out.2;omega)).trans Q.out.2;have X:Hid (w1.heap[a.heap.size]?=some (.cells #[.int .i64 0,.int .i64 0] 125)):=(p.out.1.2 a.heap.size (by have s:=m.out.2;omega) (by have s:=m.out.2;omega) (by have s:=ap.out.2;omega)).trans ap.out.1;have aH:w1.cell? ⟨a.heap.size,0,none⟩=some (.int .i64 0):=am X.out 0;have aI:w1.cell? ⟨a.heap.size,1,none⟩=some (.int .i64 0):=am X.out 1;have aJ:=λz=>cG X.out z;have al:Hid (∀n b:Value,(tN w1 a.heap.size n b).heap[w.heap.size]?=a.heap[w.heap.size]?):=λn b=>(kt (by have ad:=m.out.2;omega) n b).trans P.out)))
 ·have V:Hid (∃w0 r w2,(r=w1.heap.size/\w2=w1.alloc (.cells #[.int .i64 v.1,.int .i64 v.2] 125))/\Below w.heap.size w w0/\O v g w0 w1/\bD (λb=>w.heap.size<=b/\b<w0.heap.size) w1 w2/\w.heap.size+3<=w2.heap.size/\w2.heap[w.heap.size]?=some (.cells #[.int .i64 k,.int .i64 i,.string t,.slice h l j] 30)/\w2.heap[w.heap.size+1]?=some (.cells #[.int .i64 0,.int .i64 0] 125)/\w2.heap[r]?=some (.cells #[.int .i64 v.1,.int .i64 v.2] 125)/\w.heap.size+1≠r/\w.heap.size+2<=w0.heap.size):=by
    have f:=p.out.1.1;have s:=u.out.1.size;have ad:=m.out.2;have aq:∀b,b<w1.heap.size->(w1.alloc (.cells #[.int .i64 v.1,.int .i64 v.2] 125)).heap[b]?=w1.heap[b]? :=λb aF=>fO w1 _ aF;refine⟨a.drew,_,_,⟨rfl,rfl⟩,m.out.1.trans (u.out.1.mono m.out.1.size),p.out.2,aR aG _,by simp only[jb];omega,(ab.out _).trans R.out.1,?_,ax _ _,by omega,by omega⟩;exact(aq _ (by omega)).trans ((p.out.1.2 _ (by omega) (by omega) (by omega)).trans ((u.out.1.block _ (by omega)).trans R.out.2))
  obtain⟨w0,r,w2,⟨S,J⟩,c⟩:=V.out;rw[<-S,<-J];replace c:=ai c;clear S J V ab az P p;have av:w2.cell? ⟨r,0,none⟩=some (.int .i64 v.1):=am c.out.2.2.2.2.2.2.1 0;have aw:w2.cell? ⟨r,1,none⟩=some (.int .i64 v.2):=am c.out.2.2.2.2.2.2.1 1;have A:w2.cell? ⟨w.heap.size+1,0,none⟩=some (.int .i64 0):=am c.out.2.2.2.2.2.1 0;have B:w2.cell? ⟨w.heap.size+1,1,none⟩=some (.int .i64 0):=am c.out.2.2.2.2.2.1 1;have aa:=λz=>cG c.out.2.2.2.2.2.1 z;by_cases K:g=6;rotate_left
  ·have aE:¬(6:Int)=g:=λe=>K e.symm;go_wp2_with fail;refine ao (v:=.tuple #[.agg #[.int .i64 v.1,.int .i64 v.2],.int .i64 g]) (by simp[results,Tryz.results95,go_sem,A,B]) rfl ?_;obtain⟨G,H,I,_,_,_,_,_,Y⟩:=c.out;refine⟨v,g,rfl,ae ⟨K,w0,w1,G,H,bD.trans I ((aY w2 (w.heap.size+1) 0 _).trans (aY _ (w.heap.size+1) _ _) λ_ _ e=>e) λb _ e=>?_⟩⟩;subst e;omega
  ·subst K;have W:=ai (aC.out v w0 w1 w2 c.out.1 c.out.2.1 c.out.2.2.1 c.out.2.2.2.1);go_wp2_with fail;refine W.out.mono ?_;rintro e d ⟨rfl,C⟩;clear av aw A B aa W;have q:Hid (d.heap[w.heap.size]?=some (.cells #[.int .i64 k,.int .i64 i,.string t,.slice h l j] 30)/\d.heap[w.heap.size+1]?=some (.cells #[.int .i64 0,.int .i64 0] 125)/\w.heap.size+3<=d.heap.size):=by
    have ar:=c.out.2.2.2.1;have L:=C.out.1;exact⟨(L.2 _ (by omega) (by omega) (by omega)).trans c.out.2.2.2.2.1,(L.2 _ (by omega) (by omega) (by omega)).trans c.out.2.2.2.2.2.1,au ar L.1⟩
   have x:Hid (Below d.heap.size d d.drew):=(ah _ _).drew;have y:Hid (∀w':World,w'.heap[w.heap.size]?=some (.cells #[.int .i64 k,.int .i64 i,.string t,.slice h l j] 30)->w'.cell? ⟨w.heap.size,0,none⟩=some (.int .i64 k)/\w'.cell? ⟨w.heap.size,1,none⟩=some (.int .i64 i)/\w'.cell? ⟨w.heap.size,2,none⟩=some (.string t)/\w'.cell? ⟨w.heap.size,3,none⟩=some (.slice h l j)):=λw' f=>⟨am f 0,am f 1,am f 2,am f 3⟩;obtain⟨aK,aL,aM,aN⟩:=y.out d q.out.1;go_wp2_with fail
   go_region_held3 (λw'=>w'.cell? ⟨w.heap.size,0,none⟩=some (.int .i64 k)/\w'.cell? ⟨w.heap.size,1,none⟩=some (.int .i64 i)/\w'.cell? ⟨w.heap.size,2,none⟩=some (.string t)/\w'.cell? ⟨w.heap.size,3,none⟩=some (.slice h l j)) (first|(go_keep;done)|exact y.out _ q.out.1|exact y.out _ U.out|exact y.out _ (an.out _ _))
    ((go_at_call 56;refine(aB.out w2 d _ C.out.2 c.out.2.2.2.1 x.out).mono ?_;rintro e w4 ⟨M,Z,rfl,D⟩;have U:Hid (w4.heap[w.heap.size]?=some (.cells #[.int .i64 k,.int .i64 i,.string t,.slice h l j] 30)):=(D.out.1.2 _ (ag _) (by omega) (by have f:=q.out.2.2;have s:=x.out.size;omega)).trans q.out.1;have E:Hid (w4.heap[w.heap.size+1]?=some (.cells #[.int .i64 0,.int .i64 0] 125)):=(D.out.1.2 (w.heap.size+1) (by omega) (by omega) (by have f:=q.out.2.2;have s:=x.out.size;omega)).trans q.out.2.1;have A:w4.cell? ⟨w.heap.size+1,0,none⟩=some (.int .i64 0):=am E.out 0;have B:w4.cell? ⟨w.heap.size+1,1,none⟩=some (.int .i64 0):=am E.out 1;have aa:=λz=>cG E.out z;have an:Hid (∀n b:Value,(tN w4 (w.heap.size+1) n b).heap[w.heap.size]?=some (.cells #[.int .i64 k,.int .i64 i,.string t,.slice h l j] 30)):=λn b=>(kt (by omega) n b).trans U.out))
   go_wp2_with fail;refine ao (v:=.tuple #[.agg #[.int .i64 M.1,.int .i64 M.2],.int .i64 Z]) (by simp[results,Tryz.results95,go_sem,A,B]) rfl ?_;obtain⟨G,H,I,Y,_⟩:=c.out;exact⟨M,Z,rfl,af ⟨v,w0,w1,w2,d,d.drew,w4,G,H,I,Y,C.out.2,x.out,D.out.2,(aY w4 (w.heap.size+1) 0 _).trans (aY _ (w.heap.size+1) _ _) λ_ _ e=>e⟩⟩
 ·have V:Hid (∃w0 r w2,(r=a.heap.size/\w2=tN w1 a.heap.size (.int .i64 v.1) (.int .i64 v.2))/\Below w.heap.size w w0/\O v g w0 w1/\bD (λb=>w.heap.size<=b/\b<w0.heap.size) w1 w2/\w.heap.size+3<=w2.heap.size/\w2.heap[w.heap.size]?=some (.cells #[.int .i64 k,.int .i64 i,.string t,.slice h l j] 30)/\w2.heap[w.heap.size+1]?=some (.cells #[.int .i64 0,.int .i64 0] 125)/\w2.heap[r]?=some (.cells #[.int .i64 v.1,.int .i64 v.2] 125)/\w.heap.size+1≠r/\w.heap.size+2<=w0.heap.size):=by
    have f:=p.out.1.1;have s:=ap.out.2;have ad:=m.out.2;have aq:bD (λb=>w.heap.size<=b/\b<(a.alloc (.cells #[.int .i64 0,.int .i64 0] 125)).drew.heap.size) w1 (tN w1 a.heap.size (.int .i64 v.1) (.int .i64 v.2)):=((aY w1 a.heap.size 0 _).trans (aY _ a.heap.size _ _) λ_ _ e=>e).mono λb e=>by subst e;omega
    refine⟨_,_,_,⟨rfl,rfl⟩,m.out.1.trans (Q.out.1.mono m.out.1.size),p.out.2,aq,by rw[Ec];omega,(al.out _ _).trans R.out.1,?_,?_,by omega,by omega⟩
    ·exact(kt (by omega) _ _).trans ((p.out.1.2 _ (by omega) (by omega) (by omega)).trans ((Q.out.1.block _ (by omega)).trans R.out.2))
    ·have T:=X.out;unfold tN World.setCell;simp[bJ,T]
  obtain⟨w0,r,w2,⟨S,J⟩,c⟩:=V.out;unfold tN at J;rw[<-S];rw[<-S]at J;rw[<-J];replace c:=ai c;clear S J V al P p X aH aI aJ;have av:w2.cell? ⟨r,0,none⟩=some (.int .i64 v.1):=am c.out.2.2.2.2.2.2.1 0;have aw:w2.cell? ⟨r,1,none⟩=some (.int .i64 v.2):=am c.out.2.2.2.2.2.2.1 1;have A:w2.cell? ⟨w.heap.size+1,0,none⟩=some (.int .i64 0):=am c.out.2.2.2.2.2.1 0;have B:w2.cell? ⟨w.heap.size+1,1,none⟩=some (.int .i64 0):=am c.out.2.2.2.2.2.1 1;have aa:=λz=>cG c.out.2.2.2.2.2.1 z;by_cases K:g=6;rotate_left
  ·have aE:¬(6:Int)=g:=λe=>K e.symm;go_wp2_with fail;refine ao (v:=.tuple #[.agg #[.int .i64 v.1,.int .i64 v.2],.int .i64 g]) (by simp[results,Tryz.results95,go_sem,A,B]) rfl ?_;obtain⟨G,H,I,_,_,_,_,_,Y⟩:=c.out;refine⟨v,g,rfl,ae ⟨K,w0,w1,G,H,bD.trans I ((aY w2 (w.heap.size+1) 0 _).trans (aY _ (w.heap.size+1) _ _) λ_ _ e=>e) λb _ e=>?_⟩⟩;subst e;omega
  ·subst K;have W:=ai (aC.out v w0 w1 w2 c.out.1 c.out.2.1 c.out.2.2.1 c.out.2.2.2.1);go_wp2_with fail;refine W.out.mono ?_;rintro e d ⟨rfl,C⟩;clear av aw A B aa W;have q:Hid (d.heap[w.heap.size]?=some (.cells #[.int .i64 k,.int .i64 i,.string t,.slice h l j] 30)/\d.heap[w.heap.size+1]?=some (.cells #[.int .i64 0,.int .i64 0] 125)/\w.heap.size+3<=d.heap.size):=by
    have ar:=c.out.2.2.2.1;have L:=C.out.1;exact⟨(L.2 _ (by omega) (by omega) (by omega)).trans c.out.2.2.2.2.1,(L.2 _ (by omega) (by omega) (by omega)).trans c.out.2.2.2.2.2.1,au ar L.1⟩
   have x:Hid (Below d.heap.size d d.drew):=(ah _ _).drew;have y:Hid (∀w':World,w'.heap[w.heap.size]?=some (.cells #[.int .i64 k,.int .i64 i,.string t,.slice h l j] 30)->w'.cell? ⟨w.heap.size,0,none⟩=some (.int .i64 k)/\w'.cell? ⟨w.heap.size,1,none⟩=some (.int .i64 i)/\w'.cell? ⟨w.heap.size,2,none⟩=some (.string t)/\w'.cell? ⟨w.heap.size,3,none⟩=some (.slice h l j)):=λw' f=>⟨am f 0,am f 1,am f 2,am f 3⟩;obtain⟨aK,aL,aM,aN⟩:=y.out d q.out.1;go_wp2_with fail
   go_region_held3 (λw'=>w'.cell? ⟨w.heap.size,0,none⟩=some (.int .i64 k)/\w'.cell? ⟨w.heap.size,1,none⟩=some (.int .i64 i)/\w'.cell? ⟨w.heap.size,2,none⟩=some (.string t)/\w'.cell? ⟨w.heap.size,3,none⟩=some (.slice h l j)) (first|(go_keep;done)|exact y.out _ q.out.1|exact y.out _ U.out|exact y.out _ (an.out _ _))
    ((go_at_call 56;refine(aB.out w2 d _ C.out.2 c.out.2.2.2.1 x.out).mono ?_;rintro e w4 ⟨M,Z,rfl,D⟩;have U:Hid (w4.heap[w.heap.size]?=some (.cells #[.int .i64 k,.int .i64 i,.string t,.slice h l j] 30)):=(D.out.1.2 _ (ag _) (by omega) (by have f:=q.out.2.2;have s:=x.out.size;omega)).trans q.out.1;have E:Hid (w4.heap[w.heap.size+1]?=some (.cells #[.int .i64 0,.int .i64 0] 125)):=(D.out.1.2 (w.heap.size+1) (by omega) (by omega) (by have f:=q.out.2.2;have s:=x.out.size;omega)).trans q.out.2.1;have A:w4.cell? ⟨w.heap.size+1,0,none⟩=some (.int .i64 0):=am E.out 0;have B:w4.cell? ⟨w.heap.size+1,1,none⟩=some (.int .i64 0):=am E.out 1;have aa:=λz=>cG E.out z;have an:Hid (∀n b:Value,(tN w4 (w.heap.size+1) n b).heap[w.heap.size]?=some (.cells #[.int .i64 k,.int .i64 i,.string t,.slice h l j] 30)):=λn b=>(kt (by omega) n b).trans U.out))
   go_wp2_with fail;refine ao (v:=.tuple #[.agg #[.int .i64 M.1,.int .i64 M.2],.int .i64 Z]) (by simp[results,Tryz.results95,go_sem,A,B]) rfl ?_;obtain⟨G,H,I,Y,_⟩:=c.out;exact⟨M,Z,rfl,af ⟨v,w0,w1,w2,d,d.drew,w4,G,H,I,Y,C.out.2,x.out,D.out.2,(aY w4 (w.heap.size+1) 0 _).trans (aY _ (w.heap.size+1) _ _) λ_ _ e=>e⟩⟩
end Go.Proofs.YtnidfceinoiboaaGreat
