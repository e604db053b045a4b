/- What is proved here: the statement's own small program (clerkkeep.small): what it returns lies in new memory and is the small program. No condition. -/
import Derived.Test.YtmbjgiaebneodaaGreatG40
namespace Go.Proofs.YtmbjgiaebneodaaGreat
open Go.RowKit
set_option maxHeartbeats 4000000
set_option maxRecDepth 100000
theorem qG(s:ByteArray)(w:World):Calls Tryz.prog 13 #[.string s] w λe w'=>e=.returned (.agg #[.int .i64 2,.int .i64 0,.string s,.slice none 0 0])/\w'=w.alloc (.cells #[.int .i64 2,.int .i64 0,.string s,.slice none 0 0] 30):=by
 go_enter Tryz.func13,Tryz.ntmps13;go_wp2_with fail;exact ao (v:=.agg #[.int .i64 2,.int .i64 0,.string s,.slice none 0 0]) (by simp[results,Tryz.results13,go_sem]) rfl ⟨rfl,rfl⟩
theorem tJ(n:Int)(w:World):Calls Tryz.prog 14 #[.int .i64 n] w λe w'=>e=.returned (.agg #[.int .i64 1,.int .i64 n,.string ⟨#[]⟩,.slice none 0 0])/\w'=w.alloc (.cells #[.int .i64 1,.int .i64 n,.string ⟨#[]⟩,.slice none 0 0] 30):=by
 go_enter Tryz.func14,Tryz.ntmps14;go_wp2_with fail;exact ao (v:=.agg #[.int .i64 1,.int .i64 n,.string ⟨#[]⟩,.slice none 0 0]) (by simp[results,Tryz.results14,go_sem]) rfl ⟨rfl,rfl⟩
theorem Gx(n:Int)(w:World):Calls Tryz.prog 25 #[.int .i64 n] w λe w'=>e=.returned (.agg #[.int .i64 5,.int .i64 n,.string ⟨#[]⟩,.slice none 0 0])/\w'=w.alloc (.cells #[.int .i64 5,.int .i64 n,.string ⟨#[]⟩,.slice none 0 0] 30):=by
 go_enter Tryz.func25,Tryz.ntmps25;go_wp2_with fail;exact ao (v:=.agg #[.int .i64 5,.int .i64 n,.string ⟨#[]⟩,.slice none 0 0]) (by simp[results,Tryz.results25,go_sem]) rfl ⟨rfl,rfl⟩
theorem heap_alloc_old(w:World)(o:Obj){q:Nat}(a:q<w.heap.size):(w.alloc o).heap[q]?=w.heap[q]? :=(aG (w:=w) (o:=o)).block q a
theorem nj{h:Type}{B:Nat}{w:World}{k:Nat}{f:h->List Value}{I:h->Prop}{g:Nat}{cs:Array Value}{t:TypeId}(xs:List h)(r:w.heap[g]?=some (.cells cs t))(p:cs.toList=xs.flatMap f)(j:∀x,(f x).length=k)(q:g<B)(n:∀y∈xs,I y):nX B w k f I (some ⟨g,0,none⟩) xs:=by
 refine af ⟨g,0,rfl,q,λa y m=>⟨λb c e=>?_,n y (ax m)⟩⟩;have o:∀(l:List h)(a b:Nat)(y:h)(c:Value),l[a]?=some y->(f y)[b]?=some c->(l.flatMap f)[a*k+b]?=some c:=by
  intro l
  induction l with
  | nil=>intro a b y c d;simp at d
  | cons x l ih=>
   intro a b y c d e;rw[bj];cases a with
   | zero=>
    simp at d;subst d;rw[cV (by have:=(aK.1 e).1;omega)];simpa using e
   | succ a=>
    rw[dM (by rw[j,hH];omega),j,hH,show a*k+k+b-k=a*k+b by omega];exact ih a b y c (by simpa using d) e
 have i:=o xs a b y c m e;rw[<-p,jz]at i;rw[cQ];simp only[World.cell?,r];simpa using i
theorem nA{N B:Nat}{w:World}{g:Nat}{cs:Array Value}{t:TypeId}(xs:List (Tm N))(l:w.heap[g]?=some (.cells cs t))(j:cs.toList=xs.flatMap (f8 N))(k:g<B)(m:xs.length<=8)(h:∀y∈xs,In B w N y):In B w (N+1) ((4,0,.empty),(some ⟨g,0,none⟩,xs.length),xs):=by
 refine⟨⟨by simp[cY],by simp[cY],aD _,ag _,by show xs.length<=maxLen;unfold maxLen;omega⟩,?_⟩;rcases nj (I:=In B w N) xs l j (lQ N) k h with a|⟨b,o,f,i,a⟩
 ·exact ae a
 ·refine af ⟨b,o,f,i,λe y d=>⟨?_,(a e y d).2⟩⟩;have c:=(a e y d).1;cases N with
  | zero=>exact((a e y d).2).elim
  | succ N=>exact⟨c 0 _ rfl,c 1 _ rfl,c 2 _ rfl,c 3 _ rfl⟩
theorem tH(k:Int)(a:cY k)(N B:Nat)(w:World):In B w (N+1) (lX k N):=⟨⟨by simp[lX,aS,cY],a,aD _,by simp[lX,aS],by simp[lX,aS]⟩,ae rfl⟩
theorem Gn(k:Int)(a:cY k)(N B:Nat)(w:World):In B w (N+1) (aS 1 k N):=⟨⟨by simp[aS,cY],a,aD _,by simp[aS],by simp[aS]⟩,ae rfl⟩
def LI(g1:Nat):Tm 3:=((4,0,.empty),(some ⟨g1,0,none⟩,2),[aQ wN 1,lX 1 1])
def K0(g2:Nat):Tm 2:=((4,0,.empty),(some ⟨g2,0,none⟩,3),[aQ fw 0,lX 1 0,aS 1 1 0])
def LJ(g2 g3:Nat):Tm 3:=((4,0,.empty),(some ⟨g3,0,none⟩,2),[aQ wN 1,K0 g2])
def Gm(g2 g3:Nat):Ac 3:=(1,(lX 0 2,LJ g2 g3),.empty,0)
def Kh(g1 g2 g3 g4:Nat):Cl 3:=((lX 0 2,LI g1,lX 0 2),(some ⟨g4,0,none⟩,1),[Gm g2 g3])
def zw(g1 g2 g3 g4 g5:Nat):Bh 3:=(bG,(some ⟨g5,0,none⟩,1),[Kh g1 g2 g3 g4])
theorem EL(n:Nat)(a:Ac (n+1)):(fm (n+1) a).length=11:=rfl
theorem E0(n:Nat)(a:Cl (n+1)):(et (n+1) a).length=13:=rfl
theorem Hm(n:Nat)(a:Bh n):(mW n a).length=2:=rfl
theorem Gp{B g1 g2 g3 g4 g5 g6:Nat}{w:World}{t:TypeId}{t4 t5 t6:TypeId}(j:w.heap[g1]?=some (.cells #[.int .i64 2,.int .i64 0,.string ⟨#[110]⟩,.slice none 0 0,.int .i64 5,.int .i64 1,.string ⟨#[]⟩,.slice none 0 0] t))(k:w.heap[g2]?=some (.cells #[.int .i64 2,.int .i64 0,.string ⟨#[97,100,100]⟩,.slice none 0 0,.int .i64 5,.int .i64 1,.string ⟨#[]⟩,.slice none 0 0,.int .i64 1,.int .i64 1,.string ⟨#[]⟩,.slice none 0 0] t))(l:w.heap[g3]?=some (.cells #[.int .i64 2,.int .i64 0,.string ⟨#[110]⟩,.slice none 0 0,.int .i64 4,.int .i64 0,.string ⟨#[]⟩,.slice (some ⟨g2,0,none⟩) 3 3] t))(m:w.heap[g4]?=some (.cells #[.int .i64 1,.int .i64 5,.int .i64 0,.string ⟨#[]⟩,.slice none 0 0,.int .i64 4,.int .i64 0,.string ⟨#[]⟩,.slice (some ⟨g3,0,none⟩) 2 2,.string ⟨#[]⟩,.int .i64 0] t4))(n:w.heap[g5]?=some (.cells #[.int .i64 5,.int .i64 0,.string ⟨#[]⟩,.slice none 0 0,.int .i64 4,.int .i64 0,.string ⟨#[]⟩,.slice (some ⟨g1,0,none⟩) 2 2,.slice (some ⟨g4,0,none⟩) 1 1,.int .i64 5,.int .i64 0,.string ⟨#[]⟩,.slice none 0 0] t5))(o:w.heap[g6]?=some (.cells #[.string ⟨#[114,101,108,97,121]⟩,.slice (some ⟨g5,0,none⟩) 1 1] t6))(p:g1<B/\g2<B/\g3<B/\g4<B/\g5<B/\g6<B):fl 3 B w (some ⟨g6,0,none⟩) [zw g1 g2 g3 g4 g5]:=by
 obtain⟨d,e,f,g,h,i⟩:=p;have c:cY 0/\cY 1:=by simp[cY]
 have one:(1:Nat)<=maxLen:=by unfold maxLen;omega
 have r:In B w 3 (LI g1):=nA [aQ wN 1,lX 1 1] j rfl d (by simp) (λb a=>by
  simp only[bF,dq,dt]at a;rcases a with rfl|rfl
  ·exact eJ _ _ (gm _ (by decide)) _ _
  ·exact tH 1 c.2 _ _ _)
 have q:In B w 2 (K0 g2):=nA [aQ fw 0,lX 1 0,aS 1 1 0] k rfl e (by simp) (λb a=>by
  simp only[bF,dq,dt]at a;rcases a with rfl|rfl|rfl
  ·exact eJ _ _ (gm _ (by decide)) _ _
  ·exact tH 1 c.2 _ _ _
  ·exact Gn 1 c.2 _ _ _)
 have s:In B w 3 (LJ g2 g3):=nA [aQ wN 1,K0 g2] l rfl f (by simp) (λb a=>by
  simp only[bF,dq,dt]at a;rcases a with rfl|rfl
  ·exact eJ _ _ (gm _ (by decide)) _ _
  ·exact q)
 refine nj [zw g1 g2 g3 g4 g5] o rfl (Hm 3) i (λb a=>?_);obtain rfl:b=zw g1 g2 g3 g4 g5:=by simpa using a
 refine⟨gm bG (by decide),⟨ag _,one⟩,nj [Kh g1 g2 g3 g4] n rfl (E0 2) h (λb a=>?_)⟩;obtain rfl:b=Kh g1 g2 g3 g4:=by simpa using a
 refine⟨⟨tH 0 c.1 _ _ _,r,tH 0 c.1 _ _ _⟩,⟨ag _,one⟩,nj [Gm g2 g3] m rfl (EL 2) g (λb a=>?_)⟩;obtain rfl:b=Gm g2 g3:=by simpa using a
 exact⟨c.2,tH 0 c.1 _ _ _,s,aD _,c.1⟩
theorem tI(k:Int)(N M:Nat):aw (N+1) (lX k N) (M+1) (lX k M)=true:=oB 5 k N M
theorem Bp(g1 g2 g3 g4 g5:Nat):dv (sk 3) [zw g1 g2 g3 g4 g5] iV:=by
 have a:=tI 0 2 2;have c:aw 3 (LI g1) 3 zx=true:=bS rfl (show av _ [aQ wN 1,lX 1 1] [aQ wN 1,lX 1 1]=true by simp[av,dc,tI]);have b:aw 2 (K0 g2) 2 (cI 1 [aQ fw 0,lX 1 0,aS 1 1 0])=true:=bS rfl (show av _ [aQ fw 0,lX 1 0,aS 1 1 0] [aQ fw 0,lX 1 0,aS 1 1 0]=true by simp[av,dc,tI,oB]);have d:aw 3 (LJ g2 g3) 3 oN=true:=bS rfl (show av _ [aQ wN 1,K0 g2] [aQ wN 1,cI 1 [aQ fw 0,lX 1 0,aS 1 1 0]]=true by simp[av,dc,b]);refine dv.snoc (l:=[]) (r:=[]) dv.nil ⟨rfl,dv.snoc (l:=[]) (r:=[]) dv.nil ⟨⟨a,c,a⟩,dv.snoc (l:=[]) (r:=[]) dv.nil ⟨rfl,a,d,rfl⟩⟩⟩
def KL(w:World)(e:Ending)(w':World):Prop:=∃(a:Option Addr)(l:List (Bh 3)),e=.returned (.slice a 1 1)/\Hid (Below w.heap.size w w'/\l.length=1/\fl 3 w'.heap.size w' a l/\dv (sk 3) l iV)
def EJ(w:World)(e:Ending)(w':World):Prop:=∃(a:Option Addr)(g1 g2 g3 g4 g5:Nat),e=.returned (.slice a 1 1)/\Hid (Below w.heap.size w w'/\fl 3 w'.heap.size w' a [zw g1 g2 g3 g4 g5]/\∀W:World,(∀b,w.heap.size<=b->b<w'.heap.size->W.heap[b]?=w'.heap[b]?)->fl 3 w'.heap.size W a [zw g1 g2 g3 g4 g5])
theorem D9{w w':World}{g1 g2 g3 g4 g5 g6:Nat}(c:Below w.heap.size w w')(a:∀W:World,(∀b,w.heap.size<=b->b<w'.heap.size->W.heap[b]?=w'.heap[b]?)->fl 3 w'.heap.size W (some ⟨g6,0,none⟩) [zw g1 g2 g3 g4 g5]):EJ w (.returned (.slice (some ⟨g6,0,none⟩) 1 1)) w':=
 ⟨_,g1,g2,g3,g4,g5,rfl,c,a w' λ_ _ _=>rfl,a⟩
theorem Bn(w:World):Calls Tryz.prog 10 #[] w (EJ w):=by
 go_enter Tryz.func10,Tryz.ntmps10
 go_wp2_with (first
  | (go_at_call 25;refine(Gx _ _).mono ?_;rintro b c ⟨rfl,rfl⟩)
  | (go_at_call 13;refine(qG _ _).mono ?_;rintro b c ⟨rfl,rfl⟩)
  | (go_at_call 14;refine(tJ _ _).mono ?_;rintro b c ⟨rfl,rfl⟩)
  | (go_at_call 12;refine(oL _ _ _ _).mono ?_;rintro b c ⟨rfl,rfl⟩))
 go_ret
 refine D9 (g1:=w.heap.size+1+1+1) (g2:=w.heap.size+1+1+1+1+1+1+1+1+1+1) (g3:=w.heap.size+1+1+1+1+1+1+1+1+1+1+1+1) (g4:=w.heap.size+1+1+1+1+1+1+1+1+1+1+1+1+1+1) (g5:=w.heap.size+1+1+1+1+1+1+1+1+1+1+1+1+1+1+1+1) (g6:=w.heap.size+1+1+1+1+1+1+1+1+1+1+1+1+1+1+1+1+1) (by go_grown) (λd a=>Gp (t:=30) (t4:=74) (t5:=77) (t6:=80) ?_ ?_ ?_ ?_ ?_ ?_ ?_)
 ·refine(a _ (by omega) (by simp)).trans ?_
  iterate 14 (refine(heap_alloc_old _ _ (by simp)).trans ?_)
  exact fQ _ _ (by simp)
 ·refine(a _ (by omega) (by simp)).trans ?_
  iterate 7 (refine(heap_alloc_old _ _ (by simp)).trans ?_)
  exact fQ _ _ (by simp)
 ·refine(a _ (by omega) (by simp)).trans ?_
  iterate 5 (refine(heap_alloc_old _ _ (by simp)).trans ?_)
  exact fQ _ _ (by simp)
 ·refine(a _ (by omega) (by simp)).trans ?_
  iterate 3 (refine(heap_alloc_old _ _ (by simp)).trans ?_)
  exact fQ _ _ (by simp)
 ·refine(a _ (by omega) (by simp)).trans ?_
  iterate 1 (refine(heap_alloc_old _ _ (by simp)).trans ?_)
  exact fQ _ _ (by simp)
 ·exact(a _ (by omega) (by simp)).trans (fQ _ _ (by simp))
 ·refine⟨?_,?_,?_,?_,?_,?_⟩<;>simp
theorem D7(w:World):Calls Tryz.prog 10 #[] w (KL w):=(Bn w).mono λ_ _ ⟨a,g1,g2,g3,g4,g5,b,H⟩=>⟨a,[zw g1 g2 g3 g4 g5],b,H.out.1,rfl,H.out.2.1,Bp _ _ _ _ _⟩
end Go.Proofs.YtmbjgiaebneodaaGreat
