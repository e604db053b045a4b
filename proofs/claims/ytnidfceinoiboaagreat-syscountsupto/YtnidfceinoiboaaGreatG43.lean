/- What is proved here: the statement's own small program (clerkkeep.small): what it returns lies in new memory and is the small program. No condition. -/
import Derived.Test.YtnidfceinoiboaaGreatG42
namespace Go.Proofs.YtnidfceinoiboaaGreat
open Go.RowKit
set_option maxHeartbeats 4000000
set_option maxRecDepth 100000
theorem qS(s:ByteArray)(w:World):Calls Tryz.prog 14 #[.string s] w λe w'=>e=.returned (.agg #[.int .i64 2,.int .i64 0,.string s,.slice none 0 0])/\w'=w.alloc (.cells #[.int .i64 2,.int .i64 0,.string s,.slice none 0 0] 30):=by
 go_enter Tryz.func14,Tryz.ntmps14;go_wp2_with fail;exact ao (v:=.agg #[.int .i64 2,.int .i64 0,.string s,.slice none 0 0]) (by simp[results,Tryz.results14,go_sem]) rfl ⟨rfl,rfl⟩
theorem t8(n:Int)(w:World):Calls Tryz.prog 15 #[.int .i64 n] w λe w'=>e=.returned (.agg #[.int .i64 1,.int .i64 n,.string ⟨#[]⟩,.slice none 0 0])/\w'=w.alloc (.cells #[.int .i64 1,.int .i64 n,.string ⟨#[]⟩,.slice none 0 0] 30):=by
 go_enter Tryz.func15,Tryz.ntmps15;go_wp2_with fail;exact ao (v:=.agg #[.int .i64 1,.int .i64 n,.string ⟨#[]⟩,.slice none 0 0]) (by simp[results,Tryz.results15,go_sem]) rfl ⟨rfl,rfl⟩
theorem GX(n:Int)(w:World):Calls Tryz.prog 28 #[.int .i64 n] w λe w'=>e=.returned (.agg #[.int .i64 5,.int .i64 n,.string ⟨#[]⟩,.slice none 0 0])/\w'=w.alloc (.cells #[.int .i64 5,.int .i64 n,.string ⟨#[]⟩,.slice none 0 0] 30):=by
 go_enter Tryz.func28,Tryz.ntmps28;go_wp2_with fail;exact ao (v:=.agg #[.int .i64 5,.int .i64 n,.string ⟨#[]⟩,.slice none 0 0]) (by simp[results,Tryz.results28,go_sem]) rfl ⟨rfl,rfl⟩
theorem heap_alloc_old(w:World)(o:Obj){q:Nat}(a:q<w.heap.size):(w.alloc o).heap[q]?=w.heap[q]? :=(aG (w:=w) (o:=o)).block q a
theorem nB{h:Type}{B:Nat}{w:World}{k:Nat}{f:h->List Value}{I:h->Prop}{g:Nat}{cs:Array Value}{t:TypeId}(xs:List h)(r:w.heap[g]?=some (.cells cs t))(p:cs.toList=xs.flatMap f)(j:∀x,(f x).length=k)(q:g<B)(n:∀y∈xs,I y):oF B w k f I (some ⟨g,0,none⟩) xs:=by
 refine af ⟨g,0,rfl,q,λa y m=>⟨λb c e=>?_,n y (ay m)⟩⟩;have o:∀(l:List h)(a b:Nat)(y:h)(c:Value),l[a]?=some y->(f y)[b]?=some c->(l.flatMap f)[a*k+b]?=some c:=by
  intro l
  induction l with
  | nil=>intro a b y c d;simp at d
  | cons x l ih=>
   intro a b y c d e;rw[bj];cases a with
   | zero=>
    simp at d;subst d;rw[cY (by have:=(aK.1 e).1;omega)];simpa using e
   | succ a=>
    rw[dN (by rw[j,ip];omega),j,ip,show a*k+k+b-k=a*k+b by omega];exact ih a b y c (by simpa using d) e
 have i:=o xs a b y c m e;rw[<-p,jL]at i;rw[cU];simp only[World.cell?,r];simpa using i
theorem nM{N B:Nat}{w:World}{g:Nat}{cs:Array Value}{t:TypeId}(xs:List (Tm N))(l:w.heap[g]?=some (.cells cs t))(j:cs.toList=xs.flatMap (gq N))(k:g<B)(m:xs.length<=8)(h:∀y∈xs,In B w N y):In B w (N+1) ((4,0,.empty),(some ⟨g,0,none⟩,xs.length),xs):=by
 refine⟨⟨by simp[dc],by simp[dc],aD _,ag _,by show xs.length<=maxLen;unfold maxLen;omega⟩,?_⟩;rcases nB (I:=In B w N) xs l j (mj N) k h with a|⟨b,o,f,i,a⟩
 ·exact ae a
 ·refine af ⟨b,o,f,i,λe y d=>⟨?_,(a e y d).2⟩⟩;have c:=(a e y d).1;cases N with
  | zero=>exact((a e y d).2).elim
  | succ N=>exact⟨c 0 _ rfl,c 1 _ rfl,c 2 _ rfl,c 3 _ rfl⟩
theorem tY(k:Int)(a:dc k)(N B:Nat)(w:World):In B w (N+1) (my k N):=⟨⟨by simp[my,aS,dc],a,aD _,by simp[my,aS],by simp[my,aS]⟩,ae rfl⟩
theorem GN(k:Int)(a:dc k)(N B:Nat)(w:World):In B w (N+1) (aS 1 k N):=⟨⟨by simp[aS,dc],a,aD _,by simp[aS],by simp[aS]⟩,ae rfl⟩
def Me(g1:Nat):Tm 3:=((4,0,.empty),(some ⟨g1,0,none⟩,2),[aQ wN 1,my 1 1])
def Lz(g2:Nat):Tm 2:=((4,0,.empty),(some ⟨g2,0,none⟩,3),[aQ fE 0,my 1 0,aS 1 1 0])
def Mf(g2 g3:Nat):Tm 3:=((4,0,.empty),(some ⟨g3,0,none⟩,2),[aQ wN 1,Lz g2])
def GL(g2 g3:Nat):Ac 3:=(1,(my 0 2,Mf g2 g3),.empty,0)
def KG(g1 g2 g3 g4:Nat):Cl 3:=((my 0 2,Me g1,my 0 2),(some ⟨g4,0,none⟩,1),[GL g2 g3])
def zQ(g1 g2 g3 g4 g5:Nat):Bh 3:=(bG,(some ⟨g5,0,none⟩,1),[KG g1 g2 g3 g4])
theorem E5(n:Nat)(a:Ac (n+1)):(fy (n+1) a).length=11:=rfl
theorem Fl(n:Nat)(a:Cl (n+1)):(ex (n+1) a).length=13:=rfl
theorem Im(n:Nat)(a:Bh n):(nr n a).length=2:=rfl
theorem GO{B g1 g2 g3 g4 g5 g6:Nat}{w:World}{t:TypeId}{t4 t5 t6:TypeId}(j:w.heap[g1]?=some (.cells #[.int .i64 2,.int .i64 0,.string ⟨#[110]⟩,.slice none 0 0,.int .i64 5,.int .i64 1,.string ⟨#[]⟩,.slice none 0 0] t))(k:w.heap[g2]?=some (.cells #[.int .i64 2,.int .i64 0,.string ⟨#[97,100,100]⟩,.slice none 0 0,.int .i64 5,.int .i64 1,.string ⟨#[]⟩,.slice none 0 0,.int .i64 1,.int .i64 1,.string ⟨#[]⟩,.slice none 0 0] t))(l:w.heap[g3]?=some (.cells #[.int .i64 2,.int .i64 0,.string ⟨#[110]⟩,.slice none 0 0,.int .i64 4,.int .i64 0,.string ⟨#[]⟩,.slice (some ⟨g2,0,none⟩) 3 3] t))(m:w.heap[g4]?=some (.cells #[.int .i64 1,.int .i64 5,.int .i64 0,.string ⟨#[]⟩,.slice none 0 0,.int .i64 4,.int .i64 0,.string ⟨#[]⟩,.slice (some ⟨g3,0,none⟩) 2 2,.string ⟨#[]⟩,.int .i64 0] t4))(n:w.heap[g5]?=some (.cells #[.int .i64 5,.int .i64 0,.string ⟨#[]⟩,.slice none 0 0,.int .i64 4,.int .i64 0,.string ⟨#[]⟩,.slice (some ⟨g1,0,none⟩) 2 2,.slice (some ⟨g4,0,none⟩) 1 1,.int .i64 5,.int .i64 0,.string ⟨#[]⟩,.slice none 0 0] t5))(o:w.heap[g6]?=some (.cells #[.string ⟨#[114,101,108,97,121]⟩,.slice (some ⟨g5,0,none⟩) 1 1] t6))(p:g1<B/\g2<B/\g3<B/\g4<B/\g5<B/\g6<B):fx 3 B w (some ⟨g6,0,none⟩) [zQ g1 g2 g3 g4 g5]:=by
 obtain⟨d,e,f,g,h,i⟩:=p;have c:dc 0/\dc 1:=by simp[dc]
 have one:(1:Nat)<=maxLen:=by unfold maxLen;omega
 have r:In B w 3 (Me g1):=nM [aQ wN 1,my 1 1] j rfl d (by simp) (λb a=>by
  simp only[br,dv,dx]at a;rcases a with rfl|rfl
  ·exact eO _ _ (gF _ (by decide)) _ _
  ·exact tY 1 c.2 _ _ _)
 have q:In B w 2 (Lz g2):=nM [aQ fE 0,my 1 0,aS 1 1 0] k rfl e (by simp) (λb a=>by
  simp only[br,dv,dx]at a;rcases a with rfl|rfl|rfl
  ·exact eO _ _ (gF _ (by decide)) _ _
  ·exact tY 1 c.2 _ _ _
  ·exact GN 1 c.2 _ _ _)
 have s:In B w 3 (Mf g2 g3):=nM [aQ wN 1,Lz g2] l rfl f (by simp) (λb a=>by
  simp only[br,dv,dx]at a;rcases a with rfl|rfl
  ·exact eO _ _ (gF _ (by decide)) _ _
  ·exact q)
 refine nB [zQ g1 g2 g3 g4 g5] o rfl (Im 3) i (λb a=>?_);obtain rfl:b=zQ g1 g2 g3 g4 g5:=by simpa using a
 refine⟨gF bG (by decide),⟨ag _,one⟩,nB [KG g1 g2 g3 g4] n rfl (Fl 2) h (λb a=>?_)⟩;obtain rfl:b=KG g1 g2 g3 g4:=by simpa using a
 refine⟨⟨tY 0 c.1 _ _ _,r,tY 0 c.1 _ _ _⟩,⟨ag _,one⟩,nB [GL g2 g3] m rfl (E5 2) g (λb a=>?_)⟩;obtain rfl:b=GL g2 g3:=by simpa using a
 exact⟨c.2,tY 0 c.1 _ _ _,s,aD _,c.1⟩
theorem tZ(k:Int)(N M:Nat):aw (N+1) (my k N) (M+1) (my k M)=true:=oN 5 k N M
theorem BJ(g1 g2 g3 g4 g5:Nat):dz (sJ 3) [zQ g1 g2 g3 g4 g5] ji:=by
 have a:=tZ 0 2 2;have c:aw 3 (Me g1) 3 zR=true:=bX rfl (show av _ [aQ wN 1,my 1 1] [aQ wN 1,my 1 1]=true by simp[av,df,tZ]);have b:aw 2 (Lz g2) 2 (cM 1 [aQ fE 0,my 1 0,aS 1 1 0])=true:=bX rfl (show av _ [aQ fE 0,my 1 0,aS 1 1 0] [aQ fE 0,my 1 0,aS 1 1 0]=true by simp[av,df,tZ,oN]);have d:aw 3 (Mf g2 g3) 3 oZ=true:=bX rfl (show av _ [aQ wN 1,Lz g2] [aQ wN 1,cM 1 [aQ fE 0,my 1 0,aS 1 1 0]]=true by simp[av,df,b]);refine dz.snoc (l:=[]) (r:=[]) dz.nil ⟨rfl,dz.snoc (l:=[]) (r:=[]) dz.nil ⟨⟨a,c,a⟩,dz.snoc (l:=[]) (r:=[]) dz.nil ⟨rfl,a,d,rfl⟩⟩⟩
def Lj(w:World)(e:Ending)(w':World):Prop:=∃(a:Option Addr)(l:List (Bh 3)),e=.returned (.slice a 1 1)/\Hid (Below w.heap.size w w'/\l.length=1/\fx 3 w'.heap.size w' a l/\dz (sJ 3) l ji)
def EZ(w:World)(e:Ending)(w':World):Prop:=∃(a:Option Addr)(g1 g2 g3 g4 g5:Nat),e=.returned (.slice a 1 1)/\Hid (Below w.heap.size w w'/\fx 3 w'.heap.size w' a [zQ g1 g2 g3 g4 g5]/\∀W:World,(∀b,w.heap.size<=b->b<w'.heap.size->W.heap[b]?=w'.heap[b]?)->fx 3 w'.heap.size W a [zQ g1 g2 g3 g4 g5])
theorem Er{w w':World}{g1 g2 g3 g4 g5 g6:Nat}(c:Below w.heap.size w w')(a:∀W:World,(∀b,w.heap.size<=b->b<w'.heap.size->W.heap[b]?=w'.heap[b]?)->fx 3 w'.heap.size W (some ⟨g6,0,none⟩) [zQ g1 g2 g3 g4 g5]):EZ w (.returned (.slice (some ⟨g6,0,none⟩) 1 1)) w':=
 ⟨_,g1,g2,g3,g4,g5,rfl,c,a w' λ_ _ _=>rfl,a⟩
theorem BH(w:World):Calls Tryz.prog 11 #[] w (EZ w):=by
 go_enter Tryz.func11,Tryz.ntmps11
 go_wp2_with (first
  | (go_at_call 28;refine(GX _ _).mono ?_;rintro b c ⟨rfl,rfl⟩)
  | (go_at_call 14;refine(qS _ _).mono ?_;rintro b c ⟨rfl,rfl⟩)
  | (go_at_call 15;refine(t8 _ _).mono ?_;rintro b c ⟨rfl,rfl⟩)
  | (go_at_call 13;refine(oX _ _ _ _).mono ?_;rintro b c ⟨rfl,rfl⟩))
 go_ret
 refine Er (g1:=w.heap.size+1+1+1) (g2:=w.heap.size+1+1+1+1+1+1+1+1+1+1) (g3:=w.heap.size+1+1+1+1+1+1+1+1+1+1+1+1) (g4:=w.heap.size+1+1+1+1+1+1+1+1+1+1+1+1+1+1) (g5:=w.heap.size+1+1+1+1+1+1+1+1+1+1+1+1+1+1+1+1) (g6:=w.heap.size+1+1+1+1+1+1+1+1+1+1+1+1+1+1+1+1+1) (by go_grown) (λd a=>GO (t:=30) (t4:=83) (t5:=86) (t6:=89) ?_ ?_ ?_ ?_ ?_ ?_ ?_)
 ·refine(a _ (by omega) (by simp)).trans ?_
  iterate 14 (refine(heap_alloc_old _ _ (by simp)).trans ?_)
  exact ge _ _ (by simp)
 ·refine(a _ (by omega) (by simp)).trans ?_
  iterate 7 (refine(heap_alloc_old _ _ (by simp)).trans ?_)
  exact ge _ _ (by simp)
 ·refine(a _ (by omega) (by simp)).trans ?_
  iterate 5 (refine(heap_alloc_old _ _ (by simp)).trans ?_)
  exact ge _ _ (by simp)
 ·refine(a _ (by omega) (by simp)).trans ?_
  iterate 3 (refine(heap_alloc_old _ _ (by simp)).trans ?_)
  exact ge _ _ (by simp)
 ·refine(a _ (by omega) (by simp)).trans ?_
  iterate 1 (refine(heap_alloc_old _ _ (by simp)).trans ?_)
  exact ge _ _ (by simp)
 ·exact(a _ (by omega) (by simp)).trans (ge _ _ (by simp))
 ·refine⟨?_,?_,?_,?_,?_,?_⟩<;>simp
theorem Eo(w:World):Calls Tryz.prog 11 #[] w (Lj w):=(BH w).mono λ_ _ ⟨a,g1,g2,g3,g4,g5,b,H⟩=>⟨a,[zQ g1 g2 g3 g4 g5],b,H.out.1,rfl,H.out.2.1,BJ _ _ _ _ _⟩
end Go.Proofs.YtnidfceinoiboaaGreat
