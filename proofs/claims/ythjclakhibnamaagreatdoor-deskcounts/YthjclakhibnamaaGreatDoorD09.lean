/- Proved here: plain facts and contracts. No condition but what each names. -/
import Derived.Test.YthjclakhibnamaaGreatDoorD08
import Derived.Laws.Tables
namespace Go.Proofs.YthjclakhibnamaaGreatDoor
open Go.RowKit Go.Maps Go.Proofs.Tryz
open Go.RowKit
set_option maxRecDepth 100000
set_option maxHeartbeats 4000000
variable {base n N:Nat} {wp:BL} {mo:dd} {f:bE->List (Tm N)} {sl:bE->az} {w:ah}
def OW(base:Nat)(wp:BL)(mo:dd)(n N:Nat)(f:bE->List (Tm N))(sl:bE->az)(k:bE)(l:List (Tm N))(w w':ah):Prop:=
 ∃a c,iA base wp a (n+1) N (iz f k l) c w'/\bH (sS wp mo sl) w w'/\∀b,sS wp a c b->sS wp mo sl b\/w.heap.size<=b
theorem Iq:(Tryz.prog.info? 54).map (λi=>(i.zero,i.size,i.bytes))=some (some (.agg #[ae 0,ae 0,ag ⟨#[]⟩,af none 0 0]),4,56):=by kernel_rfl
theorem Nb(a:Nat)(W:ah):(binOp .eql 132 (.map (some a)) (.map none)).run Tryz.prog W=.ok (.bool false) W:=by kernel_rfl
theorem Na(W:ah):(binOp .eql 132 (.map none) (.map none)).run Tryz.prog W=.ok (.bool true) W:=by kernel_rfl
variable{m a room self x y:Int}{k:Int×Int}{l t:List Int}{h B L M base c i j n q:Nat}{o:Obj}{r:Type}{P S:aX}{p W w w' w0 w2:ah}{nm:aq}{d e f v0 v1 v2 v3:az}{g:bE->Bool}{u:(Nat->Prop)->r->Prop}{z:Nat->ah->r->Prop}
theorem fQ(a:bH S W p){b:Nat}(d:b<W.heap.size)(c:¬S b):∀o v,ai W b o v->ai p b o v:=λo _ e=>(a.cell o d c).trans e
theorem FZ(wp:BL)(f:Nat)(j k:Int)(y0 y1:Int)(ys:ByteArray)(ya:Option Addr)(yl yc L sc:Nat)(sa:Option Addr)(xs:List Value)(base:Nat)(w wr:World)(aq:World->Nat->World->Prop)(ak:World->Prop)(bb:L<1000)(bd:base<=w.heap.size)(aj:wp.b<w.heap.size)(a2:(f<w.heap.size/\wp.b≠f/\wr=(w.alloc (.cells #[.int .i64 j,.int .i64 k] 51)).alloc (.cells #[.int .i64 y0,.int .i64 y1,.string ys,.slice ya yl yc] 54)/\(∀b,(Value.slice sa L sc).ownBlock=some b->b<w.heap.size/\b≠wp.b)/\Hid (w.cell? ⟨wp.b,wp.o,none⟩=some (.map (some f))))\/(f=w.heap.size+1+1/\wr=(((w.alloc (.cells #[.int .i64 j,.int .i64 k] 51)).alloc (.cells #[.int .i64 y0,.int .i64 y1,.string ys,.slice ya yl yc] 54)).alloc (.map #[] 0)).setCell ⟨wp.b,wp.o,none⟩ (.map (some f))/\(∀b,(Value.slice sa L sc).ownBlock=some b->b<w.heap.size/\b≠wp.b)/\Hid (uC wp none w)))(aT:Hid (∀W,bH (λb=>b=f) wr W->W.ownsRow base 54 4 (.slice sa L sc) L xs))(aJ:Hid (∀W,Below wr.heap.size wr W->∃(A:Nat)(a:World),(Instr.mapEntry 132 (.map (some f)) (pk (j,k))).run Tryz.prog W=.ok (.tuple #[.slice sa L sc,goInt A]) a/\(bH (λb=>b=f) W a/\a.heap.size=W.heap.size/\aq W A a)))(aU:Hid (∀W A a ab i g c,aq W A a->Below wr.heap.size wr W->bH (λb=>b=f) W a->a.heap.size=W.heap.size->Below a.heap.size a ab->ab.grownBy i (Value.slice sa L sc).ownBlock->i.ownsRow base 54 4 (.slice (some ⟨g,0,none⟩) (L+1) c) (L+1) (xs++ [.int .i64 y0,.int .i64 y1,.string ys,.slice ya yl yc])->((Value.slice sa L sc).ownBlock=some g\/g=ab.heap.size)-> ∃m,(Instr.entryStore 132 (.map (some f)) (goInt A) (.slice (some ⟨g,0,none⟩) (L+1) c)).run Tryz.prog i=.ok () m/\(ak m/\bH (λb=>b=f) i m/\m.heap.size=i.heap.size))):Calls Tryz.prog 211 #[.pointer (some ⟨wp.b,wp.o,none⟩),.agg #[.int .i64 j,.int .i64 k],.agg #[.int .i64 y0,.int .i64 y1,.string ys,.slice ya yl yc]] w λe w'=>e=.returned (.tuple #[])/\ak w':=by
 obtain⟨E,hit,aE,aF,aI⟩:=bT Iq;have N:Hid (Tryz.prog.info? 54=some E/\E.zero=some (.agg #[.int .i64 0,.int .i64 0,.string ⟨#[]⟩,.slice none 0 0])/\E.size=4/\E.bytes=56):=⟨hit,aE,aF,aI⟩;clear hit aE aF aI;rcases a2 with⟨ah,ai,n,U,B⟩|⟨ah,n,U,B⟩
 case' inl=>
  have ad:=B.out;have aK:=Nb f;have P:Hid (∃h d,h=w.heap.size/\d=w.heap.size+1):=⟨_,_,rfl,rfl⟩;go_enter func211,ntmps211;go_wp2_with fail;obtain⟨h,d,y,z⟩:=P.out;rw[<-n,<-z,<-y];have aD:wr.heap.size=w.heap.size+2:=by rw[n];simp
  have al:Hid (Below w.heap.size w wr):=by
   rw[n];exact((aH _ _).alloc (aA _) _).alloc (by simp) _
  have Z:Hid (wr.heap[h]?=some (.cells #[.int .i64 j,.int .i64 k] 51)):=by
   rw[n,y];exact(((aH _ _).alloc (aA _) _).block w.heap.size (by simp)).trans (aL w _)
  have aa:Hid (wr.heap[d]?=some (.cells #[.int .i64 y0,.int .i64 y1,.string ys,.slice ya yl yc] 54)):=by
   rw[n,z];have u:=aL (w.alloc (.cells #[.int .i64 j,.int .i64 k] 51)) (.cells #[.int .i64 y0,.int .i64 y1,.string ys,.slice ya yl yc] 54);have e:(w.alloc (.cells #[.int .i64 j,.int .i64 k] 51)).heap.size=w.heap.size+1:=by simp
   rwa [e]at u
  have X:Hid (wr.cell? ⟨wp.b,wp.o,none⟩=some (.map (some f))):=(al.cell (p:=⟨wp.b,wp.o,none⟩) aj).trans ad;clear al
 case' inr=>
  have ad:w.cell? ⟨wp.b,wp.o,none⟩=some (.map none):=B.cell.1;have ae:uC wp none (((w.alloc (.cells #[.int .i64 j,.int .i64 k] 51)).alloc (.cells #[.int .i64 y0,.int .i64 y1,.string ys,.slice ya yl yc] 54)).alloc (.map #[] 0)):=B.kept (((((aH w.heap.size w).alloc (aA _) _).alloc (by simp) _).alloc (by simp;omega) _).block wp.b aj);have a9:(((w.alloc (.cells #[.int .i64 j,.int .i64 k] 51)).alloc (.cells #[.int .i64 y0,.int .i64 y1,.string ys,.slice ya yl yc] 54)).alloc (.map #[] 0)).frozen? ⟨wp.b,wp.o,none⟩=false:=ae.cell.2 _;have ba:(((w.alloc (.cells #[.int .i64 j,.int .i64 k] 51)).alloc (.cells #[.int .i64 y0,.int .i64 y1,.string ys,.slice ya yl yc] 54)).alloc (.map #[] 0)).cell? ⟨wp.b,wp.o,none⟩=some (.map none):=ae.cell.1;clear ae;have ai:wp.b≠f:=by omega
  have aK:=Na;have be:= @run_makeMap Tryz.prog;have P:Hid (∃h d,h=w.heap.size/\d=w.heap.size+1):=⟨_,_,rfl,rfl⟩;go_enter func211,ntmps211;go_wp2_with fail;obtain⟨h,d,y,z⟩:=P.out;rw[<-ah,<-n,<-z,<-y];have aD:wr.heap.size=w.heap.size+3:=by rw[n];simp[World.setCell]
  have af:∀b,b≠wp.b->wr.heap[b]?=(((w.alloc (.cells #[.int .i64 j,.int .i64 k] 51)).alloc (.cells #[.int .i64 y0,.int .i64 y1,.string ys,.slice ya yl yc] 54)).alloc (.map #[] 0)).heap[b]? :=λb D=>by
   rw[n];have:wp.b≠b:=λe=>D e.symm;simp[World.setCell,bS,this]
  have Z:Hid (wr.heap[h]?=some (.cells #[.int .i64 j,.int .i64 k] 51)):=by
   rw[af h (by omega),y];exact((((aH _ _).alloc (aA _) _).alloc (by simp) _).block w.heap.size (by simp)).trans (aL w _)
  have aa:Hid (wr.heap[d]?=some (.cells #[.int .i64 y0,.int .i64 y1,.string ys,.slice ya yl yc] 54)):=by
   rw[af d (by omega),z];have u:=aL (w.alloc (.cells #[.int .i64 j,.int .i64 k] 51)) (.cells #[.int .i64 y0,.int .i64 y1,.string ys,.slice ya yl yc] 54);have e:(w.alloc (.cells #[.int .i64 j,.int .i64 k] 51)).heap.size=w.heap.size+1:=by simp
   rw[e]at u;exact(((aH _ _).alloc (aA _) _).block (w.heap.size+1) (by simp)).trans u
  have X:Hid (wr.cell? ⟨wp.b,wp.o,none⟩=some (.map (some f))):=by
   rw[n];exact(uC.set (mo':=some f) (B.kept (((((aH w.heap.size w).alloc (aA _) (.cells #[.int .i64 j,.int .i64 k] 51)).alloc (by simp) (.cells #[.int .i64 y0,.int .i64 y1,.string ys,.slice ya yl yc] 54)).alloc (by simp;omega) (.map #[] 0)).block wp.b aj))).cell.1
  clear af
 all_goals
  have ay:h<wr.heap.size:=by omega
  have az:d<wr.heap.size:=by omega
  have aB:wp.b<wr.heap.size:=by omega
  have a4:f<wr.heap.size:=by omega
  have bc:base<=wr.heap.size:=by omega
  have T:h≠f:=by omega
  have x:d≠f:=by omega
  have V:∀b,(Value.slice sa L sc).ownBlock=some b->b≠h/\b≠d/\b≠wp.b:=λb D=>⟨by have:=(U b D).1;omega,by have:=(U b D).1;omega,(U b D).2⟩;have O:Hid (∀W,Below wr.heap.size wr W->W.cell? ⟨wp.b,wp.o,none⟩=some (.map (some f))/\(W.cell? ⟨h,0,none⟩=some (.int .i64 j)/\W.cell? ⟨h,1,none⟩=some (.int .i64 k))/\(W.cell? ⟨d,0,none⟩=some (.int .i64 y0)/\W.cell? ⟨d,1,none⟩=some (.int .i64 y1)/\W.cell? ⟨d,2,none⟩=some (.string ys)/\W.cell? ⟨d,3,none⟩=some (.slice ya yl yc))):=by
   intro W q;have au:=(q.block h ay).trans Z;have R:=(q.block d az).trans aa;exact⟨(q.cell (p:=⟨wp.b,wp.o,none⟩) aB).trans X,⟨by simp[World.cell?,au],by simp[World.cell?,au]⟩,by simp[World.cell?,R],by simp[World.cell?,R],by simp[World.cell?,R],by simp[World.cell?,R]⟩
  have Y:Hid (∀C W a,bH C W a->wr.heap.size<=W.heap.size->¬C wp.b->¬C h->¬C d->(W.cell? ⟨wp.b,wp.o,none⟩=some (.map (some f))/\(W.cell? ⟨h,0,none⟩=some (.int .i64 j)/\W.cell? ⟨h,1,none⟩=some (.int .i64 k))/\(W.cell? ⟨d,0,none⟩=some (.int .i64 y0)/\W.cell? ⟨d,1,none⟩=some (.int .i64 y1)/\W.cell? ⟨d,2,none⟩=some (.string ys)/\W.cell? ⟨d,3,none⟩=some (.slice ya yl yc)))->
    a.cell? ⟨wp.b,wp.o,none⟩=some (.map (some f))/\(a.cell? ⟨h,0,none⟩=some (.int .i64 j)/\a.cell? ⟨h,1,none⟩=some (.int .i64 k))/\(a.cell? ⟨d,0,none⟩=some (.int .i64 y0)/\a.cell? ⟨d,1,none⟩=some (.int .i64 y1)/\a.cell? ⟨d,2,none⟩=some (.string ys)/\a.cell? ⟨d,3,none⟩=some (.slice ya yl yc))):=by
   rintro C W a l bf a6 a7 a8 ⟨F,⟨G,H⟩,I,J,K,M⟩;have aX:=fQ l (b:=wp.b) (by omega) a6;have ar:=fQ l (b:=h) (by omega) a7;have Q:=fQ l (b:=d) (by omega) a8;exact⟨aX _ _ F,⟨ar _ _ G,ar _ _ H⟩,Q _ _ I,Q _ _ J,Q _ _ K,Q _ _ M⟩
  have an:Hid (∀W a,Below wr.heap.size wr W->bH (λb=>b=f) W a->a.cell? ⟨wp.b,wp.o,none⟩=some (.map (some f))/\(a.cell? ⟨h,0,none⟩=some (.int .i64 j)/\a.cell? ⟨h,1,none⟩=some (.int .i64 k))/\(a.cell? ⟨d,0,none⟩=some (.int .i64 y0)/\a.cell? ⟨d,1,none⟩=some (.int .i64 y1)/\a.cell? ⟨d,2,none⟩=some (.string ys)/\a.cell? ⟨d,3,none⟩=some (.slice ya yl yc))):=
   λW a q l=>Y _ W a l q.size ai T x (O W q)
  have aS:Hid (∀W a i,Below wr.heap.size wr W->bH (λb=>b=f) W a->a.grownBy i (Value.slice sa L sc).ownBlock->i.cell? ⟨wp.b,wp.o,none⟩=some (.map (some f))/\(i.cell? ⟨h,0,none⟩=some (.int .i64 j)/\i.cell? ⟨h,1,none⟩=some (.int .i64 k))/\(i.cell? ⟨d,0,none⟩=some (.int .i64 y0)/\i.cell? ⟨d,1,none⟩=some (.int .i64 y1)/\i.cell? ⟨d,2,none⟩=some (.string ys)/\i.cell? ⟨d,3,none⟩=some (.slice ya yl yc))):=
   λW a i q l a3=>Y _ a i (ex a3) (aG q.size l.size) (λe=>(V _ e).2.2 rfl) (λe=>(V _ e).1 rfl) (λe=>(V _ e).2.1 rfl) (an W a q l)
  have r:Hid (Below wr.heap.size wr (wr.alloc (.cells #[.int .i64 y0,.int .i64 y1,.string ys,.slice ya yl yc] 54)).drew):=(show Below _ _ _ by go_grown);have ap:Hid ((wr.alloc (.cells #[.int .i64 y0,.int .i64 y1,.string ys,.slice ya yl yc] 54)).drew.heap.size=wr.heap.size+1):=(show _=_ by simp[World.drew]);have aM:Hid (∀a,bH (λb=>b=f) (wr.alloc (.cells #[.int .i64 y0,.int .i64 y1,.string ys,.slice ya yl yc] 54)).drew a->bH (λb=>b=f) wr a):=λa l=>bH.trans (aR r _) l λ_ _ e=>e
  have aN:Hid (∀a,bH (λb=>b=f) (wr.alloc (.cells #[.int .i64 y0,.int .i64 y1,.string ys,.slice ya yl yc] 54)).drew a->a.heap[wr.heap.size]?=some (.cells #[.int .i64 y0,.int .i64 y1,.string ys,.slice ya yl yc] 54)):=
   λa l=>(l.block wr.heap.size (by rw[ap.out];omega) (by omega)).trans (aL wr _)
  have aQ:Hid (∀i m,(i.cell? ⟨wp.b,wp.o,none⟩=some (.map (some f))/\(i.cell? ⟨h,0,none⟩=some (.int .i64 j)/\i.cell? ⟨h,1,none⟩=some (.int .i64 k))/\(i.cell? ⟨d,0,none⟩=some (.int .i64 y0)/\i.cell? ⟨d,1,none⟩=some (.int .i64 y1)/\i.cell? ⟨d,2,none⟩=some (.string ys)/\i.cell? ⟨d,3,none⟩=some (.slice ya yl yc)))->bH (λb=>b=f) i m->(m.cell? ⟨wp.b,wp.o,none⟩=some (.map (some f))/\(m.cell? ⟨h,0,none⟩=some (.int .i64 j)/\m.cell? ⟨h,1,none⟩=some (.int .i64 k))/\(m.cell? ⟨d,0,none⟩=some (.int .i64 y0)/\m.cell? ⟨d,1,none⟩=some (.int .i64 y1)/\m.cell? ⟨d,2,none⟩=some (.string ys)/\m.cell? ⟨d,3,none⟩=some (.slice ya yl yc)))):=by
   rintro i m ⟨F,⟨G,H⟩,I,J,K,M⟩ l;have lt:=λ(b o:Nat)(v:Value)(u:i.cell? ⟨b,o,none⟩=some v)=>lM i ⟨b,o,none⟩ u;exact⟨fQ l (lt _ _ _ F) ai _ _ F,⟨fQ l (lt _ _ _ G) T _ _ G,fQ l (lt _ _ _ H) T _ _ H⟩,fQ l (lt _ _ _ I) x _ _ I,fQ l (lt _ _ _ J) x _ _ J,fQ l (lt _ _ _ K) x _ _ K,fQ l (lt _ _ _ M) x _ _ M⟩
  obtain⟨F,⟨G,H⟩,I,J,K,M⟩:=O.out wr (aH _ _);obtain⟨A,a,a0,S⟩:=aJ _ r;have s:=av S;have aO:=av (an _ _ r S.1);have aW:=av (S.2.1.trans ap);simp only[pk,goInt]at a0;clear S;clear ah y z n P aD X Z aa Y ad ay az aB a4 T x V;go_wp2_with fail
  go_region_held3 (λW=>W.cell? ⟨wp.b,wp.o,none⟩=some (.map (some f))/\(W.cell? ⟨h,0,none⟩=some (.int .i64 j)/\W.cell? ⟨h,1,none⟩=some (.int .i64 k))/\(W.cell? ⟨d,0,none⟩=some (.int .i64 y0)/\W.cell? ⟨d,1,none⟩=some (.int .i64 y1)/\W.cell? ⟨d,2,none⟩=some (.string ys)/\W.cell? ⟨d,3,none⟩=some (.slice ya yl yc)))
   (first|(go_keep;done)|exact O _ (aH _ _).drew|exact O _ r|exact aO|exact am|exact aP) ((first
    | (refine step_append_lies _ rfl _ _ 52 rfl base 54 E _ 4 56 underlying52 N.1 N.2.1 N.2.2.1 N.2.2.2 rfl (by decide) (.slice sa L sc) L xs (by simp[Act.eval]) (aT _ (aM _ s.1)) ⟨wr.heap.size,0,none⟩ 1 1 [.int .i64 y0,.int .i64 y1,.string ys,.slice ya yl yc] (by simp[Act.eval]) rfl (World.news_of_block (cs:= #[.int .i64 y0,.int .i64 y1,.string ys,.slice ya yl yc]) (t:=54) (fr:=(0,0)) (aN _ s.1)) (by simp[Value.oneCell']) (by decide) (by unfold maxLen;omega) (by omega) (by have:=aW.out;omega) _ rfl ?_;intro aZ aY i aC ag ax a5;have aV:=aU _ _ _ _ _ aZ aY s.2.2 r s.1 s.2.1 (aH _ _) ag aC ax;obtain⟨m,a1,aw⟩:=aV;have ao:=av aw;simp only[goInt]at a1;have am:=av (aS _ _ _ r s.1 ag);have aP:=av (aQ _ _ am ao.2.1);clear aC ag ax a5 aw)))
  exact eG (v:=.tuple #[]) (by simp[results]) rfl ⟨rfl,ao.1⟩
variable {base n N:Nat} {wp:BL} {mo:Option Nat} {f:Int×Int->List (Tm N)} {sl:Int×Int->Value} {w:World}
theorem oS.at{v:Value}{l:List (Tm N)}(d:oS base N v l w):∃a c,v=.slice a l.length c/\w.ownsRow base 54 4 (.slice a l.length c) l.length (dN N l):=by
 obtain⟨a,c,b⟩:=d.sliced;refine⟨a,c,b,?_⟩;rw[<-b];exact d
theorem GR(y:Tm (N+1)):wL (gM (N+1) y)=[.int .i64 y.1.1,.int .i64 y.1.2.1,.string y.1.2.2,.slice y.2.1.1 y.2.2.length y.2.1.2]:=rfl
theorem xu(g:iA base wp (some h) n N f sl w):wp.b≠h:=by
 intro e;obtain⟨_,i,c⟩:=g;rcases c with⟨c,_⟩|⟨m,a,j⟩
 ·cases c
 ·injection a with a;subst a e;obtain⟨k,⟨es,l,d,_⟩,_⟩:=j.map;rw[i.2]at d;cases d
theorem Bc(c:iA base wp mo n N f sl w)(g:I2 k):(sl k).ownBlock≠some wp.b:=by
 intro d;obtain⟨h,a⟩:=eK (c.row g) wp.b d;rw[c.2.1.2]at a;injection a with a;injection a with _ e _;exact c.2.1.1.2 e
theorem MJ{f:Int×Int->List (Tm (N+1))}(d:iA base wp mo n (N+1) f sl w)(i:I2 k)(y:Tm (N+1))(ad:n<999999)(W:(f k).length<1000):Calls Tryz.prog 211 #[.pointer (some ⟨wp.b,wp.o,none⟩),pk k,dG (N+1) y] w λe w'=>e=.returned (.tuple #[])/\OW base wp mo n (N+1) f sl k (f k++ [y]) w w':=by
 have v:=d.lt wp.b (ak rfl);rcases d.2.2 with⟨rfl,rfl,rfl⟩|⟨m,rfl,D⟩
 ·obtain⟨wr,j⟩:∃wr,wr=(((w.alloc (.cells #[.int .i64 k.1,.int .i64 k.2] 51)).alloc (.cells #[.int .i64 y.1.1,.int .i64 y.1.2.1,.string y.1.2.2,.slice y.2.1.1 y.2.2.length y.2.1.2] 54)).alloc (.map #[] 0)).setCell ⟨wp.b,wp.o,none⟩ (.map (some (w.heap.size+1+1))):=⟨_,rfl⟩;have Y:wr.heap.size=w.heap.size+3:=by rw[j];simp[World.setCell]
  have T:bH (λb=>b=wp.b) w wr:=by
   rw[j];refine bH.trans (aR (((((aH w.heap.size w).alloc (aA _) _).alloc (by simp) _).alloc (by simp;omega) _)) _) (bO _ wp.b wp.o _) λ_ _ e=>e
  have Z:uC wp (some (w.heap.size+1+1)) wr:=by
   rw[j];exact(d.2.1.kept (((((aH w.heap.size w).alloc (aA _) (.cells #[.int .i64 k.1,.int .i64 k.2] 51)).alloc (by simp) (.cells #[.int .i64 y.1.1,.int .i64 y.1.2.1,.string y.1.2.2,.slice y.2.1.1 y.2.2.length y.2.1.2] 54)).alloc (by simp;omega) (.map #[] 0)).block wp.b v.2)).set
  have l:GM base (w.heap.size+1+1) n (N+1) (λ_=> []) (λ_=>nu) wr:=by
   have P:=GM.new ((w.alloc (.cells #[.int .i64 k.1,.int .i64 k.2] 51)).alloc (.cells #[.int .i64 y.1.1,.int .i64 y.1.2.1,.string y.1.2.2,.slice y.2.1.1 y.2.2.length y.2.1.2] 54)) (N+1);have e:((w.alloc (.cells #[.int .i64 k.1,.int .i64 k.2] 51)).alloc (.cells #[.int .i64 y.1.1,.int .i64 y.1.2.1,.string y.1.2.2,.slice y.2.1.1 y.2.2.length y.2.1.2] 54)).heap.size=w.heap.size+1+1:=by simp
   rw[e]at P
   have Q:=(P.kee (bO _ wp.b wp.o (.map (some (w.heap.size+1+1)))) λb a e=>by
    rcases a with a|⟨x,_,a⟩
    ·omega
    ·simp[nu,Value.ownBlock]at a)
   rw[<-j]at Q;exact(Q.rebase (by omega)).mono (aN _)
  refine(FZ wp (w.heap.size+1+1) k.1 k.2 y.1.1 y.1.2.1 y.1.2.2 y.2.1.1 y.2.2.length y.2.1.2 0 0 none [] base w wr (λh r p=>OI base (w.heap.size+1+1) n (N+1) (λ_=> []) (λ_=>nu) k r h p) (λw'=>OW base wp none n (N+1) (λ_=> []) (λ_=>nu) k ([]++ [y]) w w') (by omega) (by omega) v.2 (am ⟨rfl,j,λb a=>by simp[Value.ownBlock]at a,d.2.1⟩) ?_ ?_ ?_).mono λe w' d=>d
  ·intro h g;exact⟨rfl,ak ⟨rfl,rfl⟩⟩
  ·intro h g;exact l.open i (by omega) g
  ·intro h r p R ab S c C g F J B t H s;obtain⟨O,I,E,G,K⟩:=OI.done l i C g F J B t (y:=y) (L:=0) rfl (by simpa [dN,cO,GR]using H) s;refine⟨O,I,?_,G,K⟩;obtain⟨aa,z,q,A⟩:=E;have M:¬Ow (w.heap.size+1+1) (λ_=>nu) wp.b:=by
    rintro (e|⟨x,_,e⟩)
    ·omega
    ·simp[nu,Value.ownBlock]at e
   refine⟨some (w.heap.size+1+1),_,⟨d.1,Z.kept (q.block wp.b (by omega) M),am ⟨_,rfl,z⟩⟩,?_,λb a=>?_⟩
   ·refine bH.trans (T.mono λb _ e=>ak e) q λb a e=>?_;rcases e with e|⟨x,_,e⟩
    ·omega
    ·simp[nu,Value.ownBlock]at e
   ·rcases a with a|a|a
    ·exact ak (ak a)
    ·injection a with a;exact am (by omega)
    ·rcases A b (am a)with(e|⟨x,_,e⟩)|e
     ·exact am (by omega)
     ·simp[nu,Value.ownBlock]at e
     ·exact am (by omega)
 ·obtain⟨sa,sc,u,ae⟩:=(D.row k i).at;have X:=D.lt m (ak rfl);obtain⟨wr,j⟩:∃wr,wr=(w.alloc (.cells #[.int .i64 k.1,.int .i64 k.2] 51)).alloc (.cells #[.int .i64 y.1.1,.int .i64 y.1.2.1,.string y.1.2.2,.slice y.2.1.1 y.2.2.length y.2.1.2] 54):=⟨_,rfl⟩;have a:Below w.heap.size w wr:=by
   rw[j];exact((aH _ _).alloc (aA _) _).alloc (by simp) _
  have Y:wr.heap.size=w.heap.size+2:=by rw[j];simp
  have l:GM base m n (N+1) f sl wr:=D.kee (aR a λ_=>False) λ_ _ U=>U;refine(FZ wp m k.1 k.2 y.1.1 y.1.2.1 y.1.2.2 y.2.1.1 y.2.2.length y.2.1.2 (f k).length sc sa (dN (N+1) (f k)) base w wr (λh r p=>OI base m n (N+1) f sl k r h p) (λw'=>OW base wp (some m) n (N+1) f sl k (f k++ [y]) w w') W (by omega) v.2 (ak ⟨X.2,xu d,j,λb a=>?_,d.cell.1⟩) ?_ ?_ ?_).mono λe w' d=>d
  ·rw[<-u]at a;exact⟨((d.row i).lt b a).2,λe=>Bc d i (by rw[a,e])⟩
  ·intro h g;rw[<-u];exact bD (l.row k i) g λb a e=>l.ne i (by rw[a,e])
  ·intro h g;rw[<-u];exact l.open i (by omega) g
  ·intro h r p R ab S c C g F J B t H s;rw[<-u]at t s;obtain⟨O,I,E,G,K⟩:=OI.done l i C g F J B t (y:=y) (L:=(f k).length) rfl (by simpa [GR]using H) s;refine⟨O,I,?_,G,K⟩;obtain⟨aa,z,q,A⟩:=E;have M:¬Ow m sl wp.b:=by
    rintro (e|⟨x,V,e⟩)
    ·exact xu d e
    ·exact Bc d V e
   refine⟨some m,_,⟨d.1,(d.2.1.kept (a.block wp.b v.2)).kept (q.block wp.b (by omega) M),am ⟨_,rfl,z⟩⟩,?_,λb a=>?_⟩
   ·exact bH.trans (aR a _) q λb _ e=>Gn e
   ·rcases a with a|a|a
    ·exact ak (ak a)
    ·injection a with a;exact ak (am (ak (by rw[a])))
    ·rcases A b (am a)with e|e
     ·exact ak (Gn e)
     ·exact am (by omega)
def ip(b c:Bool)(a:Int)(cl:Bool)(L:Nat):Int:=if b=false\/c=false then 1 else if a≠0 then a else if cl=false then 5 else if 20<=L then 2 else 0
theorem FV(wp:BL)(a b:Int)(k l:Int)(s:aq)(h:ay)(j i:Nat)(v g:Bool)(d:Int)(cl:Bool)(L:Nat)(w:ah)(C:Int->Int->aq->ay->Nat->Nat->ah->bF)(I:bF)(ak:L<=1000)(O:Hid (∀W,au 209 #[ae a] W λe w'=>e=aw (.bool v)/\w'=W))(P:Hid (∀W,au 209 #[ae b] W λe w'=>e=aw (.bool g)/\w'=W))(U:Hid (∀W,ap w W->au 53 #[aB k l s h j i] W λe w'=>e=aw (ae d)/\ap W w'))(V:Hid (∀W,ap w W->au 132 #[aB k l s h j i] W λe w'=>e=aw (.bool cl)/\ap W w'))(X:Hid (∀W,ap w W->au 210 #[.pointer (some ⟨wp.b,wp.o,none⟩),ae a,ae b] W λe w'=>e=aw (ae L)/\w'=W))(S:Hid (∀W,d=0->ap w W->au 91 #[aB k l s h j i] W λe w'=>∃n p u q t r,e=aw (aB n p u q t r)/\Hid (C n p u q t r W w')))(Q:Hid (∀n p u q t r W w1,ip v g d cl L=0->C n p u q t r W w1->ap w W->au 211 #[.pointer (some ⟨wp.b,wp.o,none⟩),.agg #[ae a,ae b],aB n p u q t r] w1 λe w'=>e=aw (ax #[])/\Hid (I w'))):au 183 #[.pointer (some ⟨wp.b,wp.o,none⟩),ae a,ae b,aB k l s h j i] w λe w'=>e=aw (ae (ip v g d cl L))/\(ip v g d cl L≠0->ap w w')/\(ip v g d cl L=0->I w'):=by
 have M:Hid (∃m f,m=w.alloc (.cells #[ae k,ae l,ag s,af h j i] 54)/\f=w.heap.size):=⟨_,_,rfl,rfl⟩;go_enter func183,ntmps183;go_wp2_with fail;obtain⟨m,f,B,H⟩:=M.out;rw[<-B,<-H];have x:Hid (ap w m):=by
  rw[B];exact aW _ _
 have K:Hid (m.heap[f]?=some (.cells #[ae k,ae l,ag s,af h j i] 54)/\f<m.heap.size):=by
  rw[B,H];exact⟨aL w _,by simp⟩
 have E:Hid (∀W,ap m W->ai W f 0 (ae k)/\ai W f 1 (ae l)/\ai W f 2 (ag s)/\ai W f 3 (af h j i)):=by
  intro W aa;have c:=(aa.block f K.2).trans K.1;exact⟨aj c 0,aj c 1,aj c 2,aj c 3⟩
 clear B H M;refine(O m).mono ?_;rintro e w1 ⟨rfl,rfl⟩;cases v
 ·go_wp2_with fail
  go_ret
  have e:ip false g d cl L=1:=by simp[ip]
  rw[e];exact⟨rfl,λ_=>x,λc=>by cases c⟩
 ·go_wp2_with fail;refine(P _).mono ?_;rintro e am ⟨rfl,rfl⟩;cases g
  ·go_wp2_with fail
   go_ret
   have e:ip true false d cl L=1:=by simp[ip]
   rw[e];exact⟨rfl,λ_=>x,λc=>by cases c⟩
  ·obtain⟨t0,t1,t2,t3⟩:=E.out _ (aH _ _);go_wp2_with fail;refine(U _ x).mono ?_;rintro e an ⟨rfl,F⟩;have D:=av F;have A:=av (x.trans (F.mono x.size));clear F t0 t1 t2 t3;by_cases z:d=0;rotate_left
   ·have al:¬(0:Int)=d:=λe=>z e.symm;go_wp2_with fail
    go_ret
    have e:ip true true d cl L=d:=by simp[ip,z]
    rw[e];exact⟨rfl,λ_=>A,λc=>absurd c z⟩
   ·obtain⟨t0,t1,t2,t3⟩:=E.out _ D;have ad:=av z;subst z;go_wp2_with fail;refine(V _ A).mono ?_;rintro e ao ⟨rfl,G⟩;have R:=av (D.trans (G.mono D.size));have y:=av (A.trans (G.mono A.size));clear G t0 t1 t2 t3;cases cl
    ·go_wp2_with fail
     go_ret
     have e:ip true true 0 false L=5:=by simp[ip]
     rw[e];exact⟨rfl,λ_=>y,λc=>by cases c⟩
    ·go_wp2_with fail;refine(X _ y).mono ?_;rintro e ar ⟨rfl,rfl⟩;by_cases N:20<=L
     ·have Z:(20:Int)<=(L:Int):=by omega
      go_wp2_with fail
      go_ret
      have e:ip true true 0 true L=2:=by simp[ip,N]
      rw[e];exact⟨rfl,λ_=>y,λc=>by cases c⟩
     ·have Z:¬(20:Int)<=(L:Int):=by omega
      have J:Hid (ip true true 0 true L=0):=(show ip true true 0 true L=0 by simp[ip,N]);obtain⟨t0,t1,t2,t3⟩:=E _ R;go_wp2_with fail;refine(S _ (by simp) y).mono ?_;rintro e ab ⟨n,p,u,q,t,r,rfl,Y⟩;go_wp2_with fail;refine(Q n p u q t r _ ab J Y y).mono ?_;rintro e az ⟨rfl,T⟩;go_wp2_with fail
      go_ret
      rw[J.out];exact⟨rfl,λc=>absurd rfl c,λ_=>T⟩
theorem FR{x:Tm n}(a:bL n x=0):aM ⟨n,x⟩:=by
 rw[aZ];rw[<-gO]at a;unfold xO at a;split at a
 ·rename_i b;simpa using b
 ·cases a
variable {base n N:Nat} {wp:BL} {mo:dd} {f:bE->List (Tm (N+1))} {sl:bE->az} {w:ah}
def NN(a:Int):Bool:=decide (1<=a) && decide (a<=99)
def oI(N:Nat)(a b:Int)(x:Tm (N+1))(L:Nat):Int:=ip (NN a) (NN b) (bL (N+1) x) (aY (N+1) x) L
def J0(base:Nat)(wp:BL)(mo:dd)(n N:Nat)(f:bE->List (Tm (N+1)))(sl:bE->az)(k:bE)(x:Tm (N+1))(w w':ah):Prop:=
 ∃a c d,aK (N+1) a (N+1) x=true/\iA base wp c (n+1) (N+1) (iz f k (f k++ [a])) d w'/\bH (sS wp mo sl) w w'/\(∀b,sS wp c d b->sS wp mo sl b\/w.heap.size<=b)/\In w'.heap.size w' (N+1) a/\cG (λb=>w.heap.size<=b/\¬sS wp c d b) (N+1) a
theorem LX(i:iA base wp mo n (N+1) f sl w){b:Int}(p:I2 (a,b))(x:Tm (N+1))(m:In w.heap.size w (N+1) x)(D:(aI (N+1) x).length<=2097152)(H:n<999999)(G:(f (a,b)).length<=1000):au 183 #[.pointer (some ⟨wp.b,wp.o,none⟩),ae a,ae b,dG (N+1) x] w λe w'=>e=aw (ae (oI N a b x (f (a,b)).length))/\(oI N a b x (f (a,b)).length≠0->ap w w')/\(oI N a b x (f (a,b)).length=0->J0 base wp mo n N f sl (a,b) x w w'):=by
 refine FV wp a b x.1.1 x.1.2.1 x.1.2.2 x.2.1.1 x.2.2.length x.2.1.2 (NN a) (NN b) (bL (N+1) x) (aY (N+1) x) (f (a,b)).length w
  (λu v B y A z g w'=>∃c:Tm (N+1),(u=c.1.1/\v=c.1.2.1/\B=c.1.2.2/\y=c.2.1.1/\A=c.2.2.length/\z=c.2.1.2)/\ap g w'/\In w'.heap.size w' (N+1) c/\cG (λM=>g.heap.size<=M) (N+1) c/\aK (N+1) c (N+1) x=true)
  (λw'=>J0 base wp mo n N f sl (a,b) x w w') G (λg=>Gx a g) (λg=>Gx b g) (λg d=>?_) (λg d=>?_) (λg d=>?_) (λg F d=>?_) ?_
 ·exact dX (N+1) x w.heap.size g (m.below d) d.size D
 ·exact jb (N+1) x w.heap.size g (m.below d) d.size
 ·exact JN (i.later d) p
 ·refine(iD (N+1) x w.heap.size g (m.below d) d.size (FR F)).mono ?_;rintro e w' ⟨c,rfl,I⟩;exact⟨c.1.1,c.1.2.1,c.1.2.2,c.2.1.1,c.2.2.length,c.2.1.2,rfl,⟨c,⟨rfl,rfl,rfl,rfl,rfl,rfl⟩,I⟩⟩
 ·rintro u v B y A z g P h ⟨c,⟨rfl,rfl,rfl,rfl,rfl,rfl⟩,E,q,r,J⟩ d;have l:ap w P:=d.trans (E.mono d.size);have C:(f (a,b)).length<1000:=by
   by_cases Q:20<=(f (a,b)).length
   ·exfalso;unfold ip at h;split at h
    ·cases h
    ·split at h
     ·contradiction
     ·split at h
      ·cases h
      ·first|cases h|(split at h<;>first|cases h|contradiction)
   ·omega
  refine(MJ (i.later l) p c H C).mono ?_;rintro e w' ⟨rfl,L,O,K,s,t⟩;refine⟨rfl,c,L,O,J,K,bH.trans (aR l _) s λ_ _ e=>e,λb j=>?_,?_,?_⟩
  ·rcases t b j with e|e
   ·exact ak e
   ·exact am (aG l.size e)
  ·refine q.kee s (r.mono λb j k=>?_);have:=(i.lt b k).2;have:=d.size;omega
  ·refine(In.offB r q).mono λb j=>⟨aG d.size j.1,λk=>?_⟩;rcases t b k with e|e
   ·have:=(i.lt b e).2;have:=d.size;omega
   ·omega
theorem Jr(wp:BL)(mo:dd)(a b:Int)(w:ah)(F:wp.b<w.heap.size)(y:Hid (w.cell? ⟨wp.b,wp.o,none⟩=some (.map mo)))(z:Hid (∀W,ap w W->(Instr.lookup 132 (.map mo) (.agg #[ae a,ae b]) false).run Tryz.prog W=.ok (af none 0 0) W)):au 129 #[.pointer (some ⟨wp.b,wp.o,none⟩),ae a,ae b] w λe w'=>e=aw (ax #[.agg #[ae 0,ae 0,ag ⟨#[]⟩,af none 0 0],ae 4])/\ap w w':=by
 have t:=y.out;have s:Hid (∃wr c d,wr=(w.alloc (.cells #[ae 0,ae 0,ag ⟨#[]⟩,af none 0 0] 54)).alloc (.cells #[ae a,ae b] 51)/\c=w.heap.size/\d=w.heap.size+1):=⟨_,_,_,rfl,rfl,rfl⟩;go_enter func129,ntmps129;go_wp2_with fail;obtain⟨wr,c,d,f,l,m⟩:=s.out;rw[<-f,<-m,<-l];have E:wr.heap.size=w.heap.size+2:=by rw[f];simp
 have HB:Hid (ap w wr):=by
  rw[f];exact(aW _ _).alloc (by simp) _
 have A:Hid (wr.heap[c]?=some (.cells #[ae 0,ae 0,ag ⟨#[]⟩,af none 0 0] 54)):=by
  rw[f,l];exact((aW _ _).block w.heap.size (by simp)).trans (aL w _)
 have B:Hid (wr.heap[d]?=some (.cells #[ae a,ae b] 51)):=by
  rw[f,m];have C:=aL (w.alloc (.cells #[ae 0,ae 0,ag ⟨#[]⟩,af none 0 0] 54)) (.cells #[ae a,ae b] 51);have e:(w.alloc (.cells #[ae 0,ae 0,ag ⟨#[]⟩,af none 0 0] 54)).heap.size=w.heap.size+1:=by simp
  rwa [e]at C
 have k:Hid (c<wr.heap.size/\d<wr.heap.size/\wp.b<wr.heap.size/\w.heap.size<=c/\w.heap.size<=d/\wp.b<w.heap.size):=(show _/\_ by omega);have r:Hid (∀W,ap wr W->W.cell? ⟨wp.b,wp.o,none⟩=some (.map mo)/\W.cell? ⟨d,0,none⟩=some (ae a)/\W.cell? ⟨d,1,none⟩=some (ae b)):=by
  intro W j;have u:=(j.block d k.2.1).trans B;exact⟨((j.cell (p:=⟨wp.b,wp.o,none⟩) k.2.2.1).trans (HB.cell (p:=⟨wp.b,wp.o,none⟩) F)).trans t,aj u 0,aj u 1⟩
 have q:Hid (ap wr wr.drew):=(aH _ _).drew;have n:Hid (∀W,ap wr W->ap w W):=λW j=>HB.trans (j.mono HB.size);have K:=z _ (n _ q);obtain⟨L,M,N⟩:=r.out wr (aH _ _);clear f l m s E t;go_region_held3 (λW=>W.cell? ⟨wp.b,wp.o,none⟩=some (.map mo)/\W.cell? ⟨d,0,none⟩=some (ae a)/\W.cell? ⟨d,1,none⟩=some (ae b)) (first|(go_keep;done)|exact r _ q) (fail);have g:=A.out;have G:wr.cell? ⟨c,0,none⟩=some (ae 0):=aj g 0;have H:wr.cell? ⟨c,1,none⟩=some (ae 0):=aj g 1;have I:wr.cell? ⟨c,2,none⟩=some (ag ⟨#[]⟩):=aj g 2;have J:wr.cell? ⟨c,3,none⟩=some (af none 0 0):=aj g 3;have h:∀x,wr.frozen? ⟨c,x,none⟩=false:=λx=>by simp[World.frozen?,g]
 have f0:=h 0;have f1:=h 1;have f2:=h 2;have f3:=h 3;clear h g;have i:=av k.2.2.2.1;go_wp2_with fail;refine aE (v:=ax #[.agg #[ae 0,ae 0,ag ⟨#[]⟩,af none 0 0],ae 4]) (by simp[results,results129,go_sem,G,H,I,J]) rfl ⟨rfl,?_⟩;have D:=n _ (aH _ _);exact((((D.setCell i.out _).setCell i.out _).setCell i.out _).setCell i.out _).drew
theorem zo(wp:BL)(i g c m:Nat)(y0 y1:Int)(ys:aq)(ya:ay)(yl yc:Nat)(a b:Int)(w:ah)(G:bF)(R:ah->bF)(a2:wp.b<w.heap.size)(M:g<w.heap.size)(a9:i<w.heap.size)(aZ:wp.b≠i)(aY:wp.b≠g)(aN:Hid (w.cell? ⟨wp.b,wp.o,none⟩=some (.map (some i))))(am:Hid (∀W,ap w W->(Instr.lookup 132 (.map (some i)) (.agg #[ae a,ae b]) false).run Tryz.prog W=.ok (af (some ⟨g,0,none⟩) (m+1) c) W))(aS:Hid (w.cell? ⟨g,0,none⟩=some (ae y0)/\w.cell? ⟨g,1,none⟩=some (ae y1)/\w.cell? ⟨g,2,none⟩=some (ag ys)/\w.cell? ⟨g,3,none⟩=some (af ya yl yc)))(aV:(m=0/\Hid (∀W,ap w W->∃w',(∀ty,(Builtin.delete_ #[132,51] ty #[.map (some i),.agg #[ae a,ae b]]).run Tryz.prog W=.ok (ax #[]) w')/\bH (λb=>b=i) W w'/\w'.heap.size=W.heap.size/\∀w2,Below w.heap.size w' w2->G w2))\/(1<=m/\m<=1000/\Hid (∀W,ap w W->au 161 #[af (some ⟨g,0,none⟩) (m+1) c,ae 0,ae 1] W λe w'=>e=aw (af (some ⟨g,0,none⟩) m c)/\Hid (W.grownBy w' (some g)/\R W w'))/\Hid (∀W H,R W H->ap w W->W.grownBy H (some g)->∃w',(Instr.mapUpdate 132 (.map (some i)) (.agg #[ae a,ae b]) (af (some ⟨g,0,none⟩) m c)).run Tryz.prog H=.ok () w'/\bH (λb=>b=i) H w'/\∀w2,Below w.heap.size w' w2->G w2))):au 129 #[.pointer (some ⟨wp.b,wp.o,none⟩),ae a,ae b] w λe w'=>e=aw (ax #[aB y0 y1 ys ya yl yc,ae 0])/\G w':=by
 have aD:=aN.out;have ar:Hid (∃wr f h,wr=(w.alloc (.cells #[ae 0,ae 0,ag ⟨#[]⟩,af none 0 0] 54)).alloc (.cells #[ae a,ae b] 51)/\f=w.heap.size/\h=w.heap.size+1):=⟨_,_,_,rfl,rfl,rfl⟩;go_enter func129,ntmps129;go_wp2_with fail;obtain⟨wr,f,h,u,S,T⟩:=ar.out;rw[<-u,<-T,<-S];have a1:wr.heap.size=w.heap.size+2:=by rw[u];simp
 have HB:Hid (ap w wr):=by
  rw[u];exact(aW _ _).alloc (by simp) _
 have aQ:Hid (wr.heap[f]?=some (.cells #[ae 0,ae 0,ag ⟨#[]⟩,af none 0 0] 54)):=by
  rw[u,S];exact((aW _ _).block w.heap.size (by simp)).trans (aL w _)
 have ao:Hid (wr.heap[h]?=some (.cells #[ae a,ae b] 51)):=by
  rw[u,T];have J:=aL (w.alloc (.cells #[ae 0,ae 0,ag ⟨#[]⟩,af none 0 0] 54)) (.cells #[ae a,ae b] 51);have e:(w.alloc (.cells #[ae 0,ae 0,ag ⟨#[]⟩,af none 0 0] 54)).heap.size=w.heap.size+1:=by simp
  rwa [e]at J
 have x:Hid (f<wr.heap.size/\h<wr.heap.size/\wp.b<wr.heap.size/\w.heap.size<=f/\w.heap.size<=h/\wp.b<w.heap.size):=(show _/\_ by omega);have Q:Hid (∀W,ap wr W->W.cell? ⟨wp.b,wp.o,none⟩=some (.map (some i))/\W.cell? ⟨h,0,none⟩=some (ae a)/\W.cell? ⟨h,1,none⟩=some (ae b)):=by
  intro W s;have C:=(s.block h x.2.1).trans ao;exact⟨((s.cell (p:=⟨wp.b,wp.o,none⟩) x.2.2.1).trans (HB.cell (p:=⟨wp.b,wp.o,none⟩) a2)).trans aD,aj C 0,aj C 1⟩
 have al:Hid (ap wr wr.drew):=(aH _ _).drew;have ak:Hid (∀W,ap wr W->ap w W):=λW s=>HB.trans (s.mono HB.size);have aX:=am _ (ak _ al);obtain⟨aI,aK,aM⟩:=Q.out wr (aH _ _);clear u S T ar a1 aD;go_region_held3 (λW=>W.cell? ⟨wp.b,wp.o,none⟩=some (.map (some i))/\W.cell? ⟨h,0,none⟩=some (ae a)/\W.cell? ⟨h,1,none⟩=some (ae b)) (first|(go_keep;done)|exact Q _ al) (fail);obtain⟨U,V,X,Y⟩:=aS;have B:=aC HB;replace U:=(B _ _ M).trans U;replace V:=(B _ _ M).trans V;replace X:=(B _ _ M).trans X;replace Y:=(B _ _ M).trans Y;clear B;rcases aV with⟨rfl,O⟩|⟨a7,a8,O,aR⟩
 case' inl=>simp only[cC]at am
 case' inr=>
  have bd:¬((m:Int)+1=0):=by omega
  have be:¬((m:Int)+1=1):=by omega
  have bf:(0:Int)<(m:Int)+1:=by omega
 all_goals
  have az:Hid (∃j q,(j=(wr.alloc (.cells #[ae y0,ae y1,ag ys,af ya yl yc] 54)).drew/\q=wr.heap.size)/\ap wr j/\j.heap[q]?=some (.cells #[ae y0,ae y1,ag ys,af ya yl yc] 54)/\q<j.heap.size/\wr.heap.size<=q):=⟨_,_,⟨rfl,rfl⟩,(show Below _ _ _ by go_grown),aL wr _,by simp[World.drew],aA _⟩;go_wp2_with fail;obtain⟨j,q,⟨aG,aF⟩,n⟩:=az.out;rw[<-aG,<-aF];replace n:=av n;clear aG aF az aI aK aM aX U V X Y;have ai:=av (ak _ n.1);have y:Hid (∀W:ah,(∀b,b<j.heap.size->b≠i->b≠g->W.heap[b]?=j.heap[b]?)->(W.cell? ⟨wp.b,wp.o,none⟩=some (.map (some i))/\W.cell? ⟨h,0,none⟩=some (ae a)/\W.cell? ⟨h,1,none⟩=some (ae b))/\(W.cell? ⟨q,0,none⟩=some (ae y0)/\W.cell? ⟨q,1,none⟩=some (ae y1)/\W.cell? ⟨q,2,none⟩=some (ag ys)/\W.cell? ⟨q,3,none⟩=some (af ya yl yc))/\(W.heap[f]?=some (.cells #[ae 0,ae 0,ag ⟨#[]⟩,af none 0 0] 54))):=by
   intro W s;obtain⟨a3,a4,bg,bh,bj,bk⟩:=x.out;have bb:=n.1.size;have ba:=n.2.2.2;have C:=(s h (by omega) (by omega) (by omega)).trans ((n.1.block h a4).trans ao);have aT:=(s f (by omega) (by omega) (by omega)).trans ((n.1.block f a3).trans aQ);have I:=(s q n.2.2.1 (by omega) (by omega)).trans n.2.1;have aU:=s wp.b (by omega) aZ aY;refine⟨⟨?_,aj C 0,aj C 1⟩,⟨aj I 0,aj I 1,aj I 2,aj I 3⟩,aT⟩;have J:=(Q j n.1).1;simp only[World.cell?,aU]at J ⊢;exact J
  have aO:Hid (ap j j.drew):=(aH _ _).drew;have N:=av (ai.trans (aO.mono ai.size));obtain⟨⟨aI,aK,aM⟩,_,_⟩:=y.out j (λ_ _ _ _=>rfl);have an:=av (y j.drew (λ_ _ _ _=>rfl)).1
 ·go_region_held3 (λW=>W.cell? ⟨wp.b,wp.o,none⟩=some (.map (some i))/\W.cell? ⟨h,0,none⟩=some (ae a)/\W.cell? ⟨h,1,none⟩=some (ae b)) (first|(go_keep;done)|exact an|exact aP.1|exact z.1)
    ((first|(go_at_call 161;refine(O _ N).mono ?_;rintro e a5 ⟨rfl,A⟩;obtain⟨d,bc,E,D⟩:=aR _ _ A.2 N A.1;have aP:=av (y a5 (λb t K L=>A.1.block b t (λe=>L (aJ e))));have z:=av (y d (λb t K L=>(E.block b (bi t A.1.size) K).trans (A.1.block b t (λe=>L (aJ e)))));have P:=av D;clear E D)))
  obtain⟨_,⟨t0,t1,t2,t3⟩,k⟩:=z.out;have Z:d.cell? ⟨f,0,none⟩=some (ae 0):=aj k 0;have aa:d.cell? ⟨f,1,none⟩=some (ae 0):=aj k 1;have ab:d.cell? ⟨f,2,none⟩=some (ag ⟨#[]⟩):=aj k 2;have ad:d.cell? ⟨f,3,none⟩=some (af none 0 0):=aj k 3;have l:∀F,d.frozen? ⟨f,F,none⟩=false:=λF=>by simp[World.frozen?,k]
  have f0:=l 0;have f1:=l 1;have f2:=l 2;have f3:=l 3;have r:=av x.2.2.2.1;clear l k;go_wp2_with fail;refine aE (v:=ax #[aB y0 y1 ys ya yl yc,ae 0]) (by simp[results,results129,go_sem,Z,aa,ab,ad]) rfl ⟨rfl,?_⟩;exact P.out _ (((((aH w.heap.size d).setCell r.out _).setCell r.out _).setCell r.out _).setCell r.out _)
 ·obtain⟨d,a6,E,a0,D⟩:∃d,(∀ty,(Builtin.delete_ #[132,51] ty #[.map (some i),.agg #[ae a,ae b]]).run Tryz.prog j.drew=.ok (ax #[]) d)/\bH (λb=>b=i) j.drew d/\d.heap.size=j.drew.heap.size/\∀w2,Below w.heap.size d w2->G w2:=O _ N;have z:=av (y d (λb t K L=>E.block b t K));have P:=av D;clear E a0 D;go_region_held3 (λW=>W.cell? ⟨wp.b,wp.o,none⟩=some (.map (some i))/\W.cell? ⟨h,0,none⟩=some (ae a)/\W.cell? ⟨h,1,none⟩=some (ae b)) (first|(go_keep;done)|exact an|exact z.1) (fail);obtain⟨_,⟨t0,t1,t2,t3⟩,k⟩:=z;have Z:d.cell? ⟨f,0,none⟩=some (ae 0):=aj k 0;have aa:d.cell? ⟨f,1,none⟩=some (ae 0):=aj k 1;have ab:d.cell? ⟨f,2,none⟩=some (ag ⟨#[]⟩):=aj k 2;have ad:d.cell? ⟨f,3,none⟩=some (af none 0 0):=aj k 3;have l:∀F,d.frozen? ⟨f,F,none⟩=false:=λF=>by simp[World.frozen?,k]
  have f0:=l 0;have f1:=l 1;have f2:=l 2;have f3:=l 3;have r:=av x.2.2.2.1;clear l k;go_wp2_with fail;refine aE (v:=ax #[aB y0 y1 ys ya yl yc,ae 0]) (by simp[results,results129,go_sem,Z,aa,ab,ad]) rfl ⟨rfl,?_⟩;exact P.out _ (((((aH w.heap.size d).setCell r.out _).setCell r.out _).setCell r.out _).setCell r.out _)
variable {base n N:Nat} {wp:BL} {mo:dd} {f:bE->List (Tm (N+1))} {sl:bE->az} {w:ah}
def mG(base:Nat)(wp:BL)(mo:dd)(n N:Nat)(f:bE->List (Tm (N+1)))(sl:bE->az)(k:bE)(l:List (Tm (N+1)))(w w':ah):Prop:=
 ∃a,iA base wp mo (n+1) (N+1) (iz f k l) a w'/\bH (sS wp mo sl) w w'/\∀b,sS wp mo a b->sS wp mo sl b
theorem mG.later{k:bE}{l:List (Tm (N+1))}(h:iA base wp mo n (N+1) f sl w)(g:mG base wp mo n N f sl k l w w')(a:Below w.heap.size w' w2):mG base wp mo n N f sl k l w w2:=by
 obtain⟨o,i,j,d⟩:=g;have e:bH (λb=>w.heap.size<=b) w' w2:=⟨a.os,a.tape,a.output,a.size,λb _ c=>a.block b (by omega)⟩;refine⟨o,i.kee e λb c m=>?_,bH.trans j e λb c m=>?_,d⟩
 ·have:=(h.lt b (d b c)).2;omega
 ·omega
theorem Jg{g:Nat}{y:Tm (N+1)}{l:List (Tm (N+1))}(b:w.ownsRow base 54 4 (af (some ⟨g,0,none⟩) L c) L (dN (N+1) (y::l))):ai w g 0 (ae y.1.1)/\ai w g 1 (ae y.1.2.1)/\ai w g 2 (ag y.1.2.2)/\ai w g 3 (af y.2.1.1 y.2.2.length y.2.1.2):=by
 have a:=E6 (l:=(y::l).map (gM (N+1))) b 0 (gM (N+1) y) (by simp);simp only[Nat.zero_mul,cC]at a;exact a
theorem Md(d:iA base wp mo n (N+1) f sl w){b:Int}(m:I2 (a,b))(aq:n<999999)(V:(f (a,b)).length<=1000):au 129 #[.pointer (some ⟨wp.b,wp.o,none⟩),ae a,ae b] w λe w'=> (f (a,b)=[]->e=aw (ax #[.agg #[ae 0,ae 0,ag ⟨#[]⟩,af none 0 0],ae 4])/\ap w w')/\ ∀y l,f (a,b)=y::l->e=aw (ax #[dG (N+1) y,ae 0])/\mG base wp mo n N f sl (a,b) l w w':=by
 have r:=d.lt wp.b (ak rfl);have z:∀i,ap w i->(Instr.lookup 132 (.map mo) (.agg #[ae a,ae b]) false).run Tryz.prog i=.ok (sl (a,b)) i:=λi g=>(d.later g).look m;cases k:f (a,b)with
 | nil=>
  have t:sl (a,b)=af none 0 0:=by
   rcases d.2.2 with⟨_,_,rfl⟩|⟨h,rfl,s⟩
   ·rfl
   ·obtain⟨Q,R,G,H⟩:=s.map;have ab:has Q (kl (a,b))=false:=by
     cases hh:has Q (kl (a,b))
     ·rfl
     ·obtain⟨u,x,Z,T⟩:=(H _).1 hh;rw[<-qY m x Z]at T;exact absurd k T
    have:=G (a,b) m;rw[atKey_of_not_has ab]at this;injection this with this;exact this.symm
  rw[t]at z;refine(Jr wp mo a b w r.2 d.cell.1 z).mono ?_;rintro e w' ⟨rfl,c⟩;exact⟨λ_=>⟨rfl,c⟩,λy l e=>by cases e⟩
 | cons y l=>
  rcases d.2.2 with⟨_,rfl,_⟩|⟨h,rfl,s⟩
  ·cases k
  ·obtain⟨sa,sc,t,A⟩:=(s.row (a,b) m).at;rw[k]at t A V;have W:=s.lt h (ak rfl);obtain⟨j,rfl⟩:∃j,sa=some ⟨j,0,none⟩:=by
    rcases A.2 with⟨e,_⟩|⟨j,cap,ao,e,_⟩
    ·simp at e
    ·simp at e;exact⟨j,e.1⟩
   have U:=A.lt j rfl;have O:wp.b≠j:=λe=>Bc d m (by rw[t,e];rfl);have Y:=Jg A;rw[t]at z;cases hl0:l with
   | nil=>
    subst hl0;refine(zo wp h j sc 0 y.1.1 y.1.2.1 y.1.2.2 y.2.1.1 y.2.2.length y.2.1.2 a b w (λw'=>mG base wp (some h) n N f sl (a,b) [] w w') (λ_ _=>True) r.2 U.2 W.2 (xu d) O d.cell.1 z Y (ak ⟨rfl,λi g=>?_⟩)).mono ?_
    ·have I:GM base h n (N+1) f sl i:=s.kee (aR g λ_=>False) λ_ _ k=>k;obtain⟨v,P,J,p,X⟩:=I.drop m 3;have ad:∀ty,(Builtin.delete_ #[132,51] ty #[.map (some h),.agg #[ae a,ae b]]).run Tryz.prog i=.ok (ax #[]) v:=λty=>P;refine⟨v,ad,p,X,λal K=>?_⟩;have q:mG base wp (some h) n N f sl (a,b) [] w v:=by
      refine⟨_,⟨d.1,(d.2.1.kept (g.block wp.b r.2)).kept (p.block wp.b (bi r.2 g.size) (xu d)),am ⟨h,rfl,J.mono (fO n)⟩⟩,bH.trans (aR g _) p λC _ e=>am (ak (by rw[e])),λC c=>?_⟩;rcases c with c|c|⟨u,x,c⟩
      ·exact ak c
      ·exact am (ak c)
      ·by_cases e:u=(a,b)
       ·rw[e,dh]at c;simp[nu,Value.ownBlock]at c
       ·rw[ci _ _ e]at c;exact am (am ⟨u,x,c⟩)
     exact mG.later d q K
    ·rintro e w' ⟨rfl,q⟩;refine⟨λe=>(by cases e),λan aj e=>?_⟩;injection e with E F;subst E F;exact⟨rfl,q⟩
   | cons y2 av=>
    rw[<-hl0];have M:l≠[]:=by rw[hl0];simp
    have aa:1<=l.length:=nK.2 M;refine(zo wp h j sc l.length y.1.1 y.1.2.1 y.1.2.2 y.2.1.1 y.2.2.length y.2.1.2 a b w (λw'=>mG base wp (some h) n N f sl (a,b) l w w') (λi w'=>oS base (N+1) (af (some ⟨j,0,none⟩) l.length sc) l w'/\w'.heap.size=i.heap.size) r.2 U.2 W.2 (xu d) O d.cell.1 z Y (am ⟨aa,by simp at V;omega,λi g=>?_,λi D S g L=>?_⟩)).mono ?_
    ·refine(Ea base j sc l.length y l i rfl (bD A (aR g λ_=>False) λ_ _ k=>k) M).mono ?_;rintro e w' ⟨rfl,R,G,H⟩;exact⟨rfl,G,R,H⟩
    ·have I:GM base h n (N+1) f sl i:=s.kee (aR g λ_=>False) λ_ _ k=>k;have B:(sl (a,b)).ownBlock=some j:=by rw[t];rfl
     obtain⟨v,P,J,p,X⟩:=I.store m (w1:=D) ((ex L).mono λb _ e=>B.trans e) M S.1 (λb c=>ak (B.trans c)) (by omega);refine⟨v,P,p,λal K=>?_⟩;have ai:bH (sS wp (some h) sl) w D:=bH.trans (aR g _) (ex L) λC _ e=>am (am ⟨(a,b),m,B.trans e⟩);have ah:D.heap[wp.b]?=w.heap[wp.b]? :=(L.block wp.b (bi r.2 g.size) (λe=>O (aJ e))).trans (g.block wp.b r.2);have ar:=g.size;have q:mG base wp (some h) n N f sl (a,b) l w v:=by
      refine⟨_,⟨d.1,(d.2.1.kept ah).kept (p.block wp.b (by rw[S.2];omega) (xu d)),am ⟨h,rfl,J⟩⟩,bH.trans ai p λC _ e=>am (ak (by rw[e])),λC c=>?_⟩;rcases c with c|c|⟨u,x,c⟩
      ·exact ak c
      ·exact am (ak c)
      ·by_cases e:u=(a,b)
       ·rw[e,dh]at c;exact am (am ⟨(a,b),m,B.trans c⟩)
       ·rw[ci _ _ e]at c;exact am (am ⟨u,x,c⟩)
     exact mG.later d q K
    ·rintro e w' ⟨rfl,q⟩;refine⟨λe=>(by cases e),λan aj e=>?_⟩;injection e with E F;subst E F;exact⟨rfl,q⟩
def jl(x y:Int):Int×Int:=(min x y,max x y)
def rj:List Int:=(List.range 99).map λi:Nat=>(i:Int)+1
theorem CH:y∈rj ↔ 1<=y/\y<=99:=by
 simp only[rj,cg,List.mem_range];constructor
 ·rintro ⟨c,b,rfl⟩;omega
 ·intro a;exact⟨(y-1).toNat,by omega,by omega⟩
theorem pn:rj.length=99:=by simp[rj]
theorem Fc:rj.Nodup:=by
 unfold rj;refine List.Pairwise.map _ ?_ List.nodup_range;intro c b a d;exact a (by omega)
theorem LH(i:Nat)(a:i<99):rj[i]?=some ((i:Int)+1):=by simp[rj,a]
def rL(g:bE->Bool)(x:Int):List Int:=rj.filter λy=>g (jl x y)
def Bn(g:bE->Bool):Prop:=∀k,g k=true->1<=k.1/\k.1<k.2/\k.2<=99
theorem gW:y∈rL g x ↔ (1<=y/\y<=99)/\g (jl x y)=true:=by
 rw[rL,List.mem_filter,CH]
theorem pR(g:bE->Bool)(x:Int):(rL g x).Nodup:=Fc.sublist List.filter_sublist
theorem wO(g:bE->Bool)(x:Int):(rL g x).length<=99:=by
 have:=List.length_filter_le (λa=>g (jl x a)) rj;rw[pn]at this;exact this
theorem io(x y:Int):jl x y=(x,y)/\x<=y\/jl x y=(y,x)/\y<=x:=by
 rcases Int.le_total x y with a|a
 ·exact ak ⟨by simp[jl,Int.min_eq_left a,Int.max_eq_right a],a⟩
 ·exact am ⟨by simp[jl,Int.min_eq_right a,Int.max_eq_left a],a⟩
theorem IR(c:Bn g)(b:g (jl x y)=true):(1<=x/\x<=99)/\(1<=y/\y<=99)/\x≠y:=by
 have:=c _ b;rcases io x y with⟨a,_⟩|⟨a,_⟩<;>(rw[a]at this;simp at this;omega)
theorem CO(b:Bn g)(x:Int):x∉rL g x:=λa=>(IR b (gW.1 a).2).2.2 rfl
def wo(g:bE->Bool)(l:List Int):bE->Bool:=λk=>g k && !l.contains k.1 && !l.contains k.2
theorem tR{k:bE}:wo g l k=true ↔ g k=true/\k.1∉l/\k.2∉l:=by
 simp[wo,and_assoc]
theorem OB:wo g l (jl x y)=true ↔ g (jl x y)=true/\x∉l/\y∉l:=by
 rw[tR];rcases io x y with⟨d,_⟩|⟨d,_⟩
 ·rw[d]
 ·rw[d];constructor
  ·rintro ⟨a,b,c⟩;exact⟨a,c,b⟩
  ·rintro ⟨a,b,c⟩;exact⟨a,c,b⟩
theorem Bn.wo(a:Bn g)(l:List Int):Bn (wo g l):=λk b=>a k (tR.1 b).1
theorem Ql(g:bE->Bool)(l r:List Int):wo (wo g l) r=wo g (l++r):=by
 funext k;rw[Bool.eq_iff_iff,tR,tR,tR];simp only[dv,not_or];constructor
 ·rintro ⟨⟨a,b,c⟩,d,e⟩;exact⟨a,⟨b,d⟩,c,e⟩
 ·rintro ⟨a,⟨b,d⟩,c,e⟩;exact⟨⟨a,b,c⟩,d,e⟩
def uG(g:bE->Bool)(x:Int)(l:List Int):bE->Bool:=l.foldl (λg y=>iz g (jl x y) false) g
theorem BP{k:bE}:uG g x l k=true ↔ g k=true/\∀y∈l,k≠jl x y:=by
 induction l generalizing g with
 | nil=>simp[uG]
 | cons y l ih=>
  have b:uG g x (y::l)=uG (iz g (jl x y) false) x l:=rfl;rw[b,ih];unfold iz;by_cases a:k=jl x y
  ·simp[a]
  ·simp[a]
theorem Hj(g:bE->Bool)(x:Int)(l:List Int)(y:Int):uG g x (l++ [y])=iz (uG g x l) (jl x y) false:=by simp[uG]
theorem M3(i:Bn g)(x:Int):uG g x (rL g x)=wo g [x]:=by
 funext k;rw[Bool.eq_iff_iff,BP,tR];refine and_congr_right λd=>?_;have l:=i k d;simp only[dP];constructor
 ·intro e;refine⟨λb=>?_,λb=>?_⟩
  ·have c:k=jl x k.2:=by
     rcases io x k.2 with⟨a,_⟩|⟨_,a⟩
     ·rw[a,<-b]
     ·omega
   exact e k.2 (gW.2 ⟨by omega,c▸d⟩) c
  ·have c:k=jl x k.1:=by
     rcases io x k.1 with⟨_,a⟩|⟨a,_⟩
     ·omega
     ·rw[a,<-b]
   exact e k.1 (gW.2 ⟨by omega,c▸d⟩) c
 ·rintro ⟨f,h⟩ j _ b;rcases io x j with⟨a,_⟩|⟨a,_⟩
  ·exact f (by rw[b,a])
  ·exact h (by rw[b,a])
/-! ### who is told -/
def Az(t l:List Int):List Int:=l.filter λy=> !t.contains y
def dz(g:bE->Bool)(x:Int):Nat->List Int
 | 0=>rL g x
 | i+1=>match (dz g x i)[i]? with
  | some y=>dz g x i++Az (dz g x i) (rL (wo g (x::(dz g x i).take i)) y)
  | none=>dz g x i
def uy(g:bE->Bool)(x:Int):List Int:=dz g x 99
theorem o8:y∈Az t l ↔ y∈l/\y∉t:=by simp[Az]
structure Told (g:bE->Bool) (x:Int) (l:List Int):Prop where
 nodup:l.Nodup
 self:x∉l
 rng:∀y∈l,1<=y/\y<=99
 from':∀i y,l[i]?=some y->∃k∈x::l.take i,y∈rL g k
theorem AD(c:t.Nodup)(d:l.Nodup)(e:∀y∈l,y∉t):(t++l).Nodup:=by
 rw[fM];exact⟨c,d,λh f b g a=>e b g (a▸f)⟩
theorem ur(c:l.Nodup)(g:l[i]?=some y):y∉l.take i:=by
 intro f;obtain⟨h,d,a⟩:=List.getElem_of_mem f;rw[du]at d;rw[List.getElem_take]at a;obtain⟨e,b⟩:=bj.1 g;exact(List.pairwise_iff_getElem.1 c) h i (by omega) e (by omega) (a.trans b.symm)
theorem jt{g:bE->Bool}(e:Bn g)(x:Int):∀i,Told g x (dz g x i)
 | 0=>⟨pR g x,CO e x,λy c=>(gW.1 c).1,λi y c=>⟨x,by simp,aU c⟩⟩
 | i+1=>by
  have ih:=jt e x i;unfold dz;split
  ·rename_i y c;refine⟨AD ih.nodup ((pR _ _).sublist List.filter_sublist) λd b=>(o8.1 b).2,?_,?_,?_⟩
   ·intro a;rcases dv.1 a with a|a
    ·exact ih.self a
    ·have:=(OB.1 (gW.1 (o8.1 a).1).2).2.2;simp at this
   ·intro d b;rcases dv.1 b with a|a
    ·exact ih.rng d a
    ·exact(gW.1 (o8.1 a).1).1
   ·intro j d b;rw[List.getElem?_append]at b;split at b
    ·rename_i h;obtain⟨k,l,m⟩:=ih.from' j d b;refine⟨k,?_,m⟩;rw[ku (by omega)];exact l
    ·rename_i h;have f:=o8.1 (aU b);refine⟨y,?_,gW.2 ⟨(gW.1 f.1).1,(OB.1 (gW.1 f.1).2).1⟩⟩;refine cd _ ?_;rw[List.take_append];refine List.mem_append_left _ ?_;rw[bI (by omega)];exact aU c
  ·exact ih
theorem Lu(a:l.Nodup):∀{r:List Int},(∀y∈l,y∈r)->l.length<=r.length:=by
 induction l with
 | nil=>simp
 | cons y l ih=>
  intro r b;rw[nM]at a;have c:=b y (by simp);have:=ih a.2 (r:=r.erase y) λe d=>(List.mem_erase_of_ne (λf:e=y=>a.1 (f▸d))).2 (b e (by simp[d]));rw[List.length_erase_of_mem c]at this;have:=List.length_pos_of_mem c;simp;omega
theorem Told.le(a:Told g x l):l.length<=99:=by
 have:=Lu a.nodup (r:=rj) λc b=>CH.2 (a.rng c b);rwa [pn]at this
theorem rG{g:bE->Bool}{x:Int}{i:Nat}(a:(dz g x i).length<=i):∀j,dz g x (i+j)=dz g x i
 | 0=>rfl
 | j+1=>by
  have ih:=rG a j;have:dz g x (i+j+1)=dz g x (i+j):=by
   rw[dz];rw[fu (by rw[ih];omega)]
  rw[<-Nat.add_assoc,this,ih]
theorem Jx(e:Bn g)(d:(dz g x i).length<=i):dz g x i=uy g x:=by
 unfold uy;rcases Nat.le_total i 99 with a|a
 ·obtain⟨b,c⟩:=Nat.le.dest a;rw[<-c,rG d b]
 ·obtain⟨b,rfl⟩:=Nat.le.dest a;exact rG ((jt e x 99).le) b
theorem FI(a:Bn g)(x:Int):Told g x (uy g x):=jt a x 99
theorem NQ{v:Int}:jl m v=jl x y ↔ (m=x/\v=y)\/(m=y/\v=x):=by
 rcases io x y with⟨a,c⟩|⟨a,c⟩<;>rcases io m v with⟨b,d⟩|⟨b,d⟩<;>(rw[a,b];simp only[gS];omega)
theorem I8(i:Nat)(a:i<99):rj.take (i+1)=rj.take i++ [(i:Int)+1]:=by
 rw[dL,LH i a];rfl
def sB(g:bE->Bool)(x:Int)(i:Nat):List Int:=(rj.take i).filter λy=>g (jl x y)
theorem IS(g:bE->Bool)(x:Int)(i:Nat)(a:i<99):sB g x (i+1)=sB g x i++if g (jl x ((i:Int)+1))then [(i:Int)+1]else []:=by
 rw[sB,I8 i a,List.filter_append,List.filter_cons,List.filter_nil];rfl
theorem Lw(g:bE->Bool)(x:Int):sB g x 99=rL g x:=by
 rw[sB,bI (by rw[pn];exact aA _)];rfl
theorem CP(g:bE->Bool)(x:Int)(i:Nat):(sB g x i).length<=i:=by
 have:=List.length_filter_le (λa=>g (jl x a)) (rj.take i);rw[du]at this;unfold sB;omega
theorem IL(t l:List Int)(y:Int)(b:y∉l):Az t (l++ [y])=Az t l++if (t++Az t l).contains y then []else [y]:=by
 unfold Az;rw[List.filter_append,List.filter_cons,List.filter_nil];have a:(t++l.filter λy=> !t.contains y).contains y=t.contains y:=by
  rw[Bool.eq_iff_iff];simp[b]
 rw[a];cases t.contains y<;>rfl
structure SM (base mb n:Nat) (g:bE->Bool) (w:ah):Prop where
 lo:base<=mb
 map:∃D:DataW az,w.ownsMap Tryz.prog 51 unitElem mb n D/\∀k,I2 k->has D (kl k)=g k
variable {base mb n:Nat} {g:bE->Bool} {w:ah}
theorem SM.lt(a:SM base mb n g w):base<=mb/\mb<w.heap.size:=by
 obtain⟨c,b,_⟩:=a.map;exact⟨a.lo,b.lt⟩
theorem SM.kee(a:SM base mb n g w)(k:bH S w w')(f:¬S mb):SM base mb n g w':=by
 obtain⟨c,b,e⟩:=a.map;refine⟨a.lo,c,?_,e⟩;have i:=b.lt;obtain⟨es,d,h,j⟩:=b;exact⟨es,d,(k.block mb i f).trans h,j⟩
theorem SM.later(a:SM base mb n g w)(k:ap w w'):SM base mb n g w':=a.kee (aR k λ_=>False) id
theorem SM.rebase(a:SM base mb n g w)(b:h<=base):SM h mb n g w:=⟨aG b a.lo,a.map⟩
theorem SM.mono(b:SM base mb n g w){m:Nat}(f:n<=m):SM base mb m g w:=by
 obtain⟨c,a,d,e⟩:=b;exact⟨c,a,d.mono f,e⟩
theorem SM.new(w:ah):SM w.heap.size w.heap.size 0 (λ_=>false) (w.alloc (.map #[] 0)):=
 ⟨aA _,.map [],qm w _ _ _,λk _=>by simp[has]⟩
theorem DP(w:ah):(zeroValue 301).run Tryz.prog w=.ok (.agg #[]) w:=by kernel_rfl
theorem SM.look(b:SM base mb n g w){k:bE}(a:I2 k):(Instr.lookup 135 (.map (some mb)) (pk k) true).run Tryz.prog w=.ok (ax #[.agg #[],.bool (g k)]) w:=by
 obtain⟨h,c,d⟩:=b.map;obtain⟨i,ps,e,f⟩:=c.look_ok fD underlying135 (DP w) unitElem_mk (f9 a);obtain⟨rfl,_⟩:=unitElem_inv f;rw[e,d k a]
theorem Fu(w:ah){k:bE}(b:I2 k):(Instr.lookup 135 (.map none) (pk k) true).run Tryz.prog w=.ok (ax #[.agg #[],.bool false]) w:=by
 have a:=look_nil (P:=Tryz.prog) (w:=w) true fD underlying135 (DP w) (f9 b);simpa using a
theorem SM.put(d:SM base mb n g w){k:bE}(c:I2 k)(s:n<1000000):∃w2,(Instr.mapUpdate 135 (.map (some mb)) (pk k) (.agg #[])).run Tryz.prog w=.ok () w2/\SM base mb (n+1) (iz g k true) w2/\bH (λb=>b=mb) w w2/\w2.heap.size=w.heap.size:=by
 obtain⟨r,e,j⟩:=d.map;obtain⟨w2,o,m,q⟩:=e.store fD underlying135 (by unfold maxLen;omega) (f9 c) unitElem_mk;obtain⟨l,p⟩:=ju q;refine⟨w2,o,⟨d.lo,_,m,λh f=>?_⟩,l,p⟩;by_cases a:h=k
 ·rw[a,dh,has_put_same e.isMap (fD.key (f9 c))]
 ·rw[ci _ _ a,has_put_other λi=>a (qY f c i)];exact j h f
theorem SM.drop(c:SM base mb n g w){k:bE}(e:I2 k)(ty:TypeId):∃w2,(Builtin.delete_ #[135,51] ty #[.map (some mb),pk k]).run Tryz.prog w=.ok (ax #[]) w2/\SM base mb n (iz g k false) w2/\bH (λb=>b=mb) w w2/\w2.heap.size=w.heap.size:=by
 obtain⟨r,i,j⟩:=c.map;obtain⟨w2,o,m,q⟩:=i.drop fD underlying135 (f9 e) ty;obtain⟨l,p⟩:=ju q;refine⟨w2,o,⟨c.lo,_,m,λf d=>?_⟩,l,p⟩;by_cases a:f=k
 ·rw[a,dh,has_del_same]
 ·rw[ci _ _ a,has_del_other λh=>a (qY d e h)];exact j f d
/-! ### rows of numbers -/
def jd(l:List Int):List az:=l.map (Value.int .i64)
theorem mz(l:List Int)(k:Int):jd (l++ [k])=jd l++ [ae k]:=by simp[jd]
def iT(base:Nat)(v:az)(l:List Int)(w:ah):Prop:=w.ownsRow base 3 1 v l.length (jd l)
def JV(v:az)(l:List Int)(w:ah):Prop:=∃a c,v=af a l.length c/\(l=[]\/∃g o,a=some ⟨g,o,none⟩/\g<w.heap.size/\∀(i:Nat)(k:Int),l[i]?=some k->w.cell? ⟨g,o+i,none⟩=some (ae k))
theorem iT.row{v:az}(c:iT base v l w):JV v l w:=by
 have d:=c;rcases c.2 with⟨rfl,b⟩|⟨g,cap,i,rfl,_,e,_⟩
 ·exact⟨none,0,by rw[b],ak (b9 b)⟩
 ·refine⟨some ⟨g,0,none⟩,cap,rfl,am ⟨g,0,rfl,(aS.1 e).1,λh k f=>?_⟩⟩;have a:=d.cells (g:=g) rfl h (ae k) (by simp[jd,f]);rw[eT,cC]at a;rw[cC];exact a
theorem iT.nil(base:Nat)(w:ah):iT base (af none 0 0) [] w:=⟨rfl,ak ⟨rfl,rfl⟩⟩
theorem iT.later{v:az}(a:iT base v l w)(k:ap w w'):iT base v l w':=bD a (aR k λ_=>False) λ_ _ a=>a
def oQ(a:Int):Bool:=decide (1<=a) && decide (a<=99)
theorem mV(a:Int)(w:ah):au 212 #[ae a] w λe w'=>e=aw (.bool (oQ a))/\w'=w:=by
 go_enter func212,ntmps212;by_cases b:1<=a
 ·go_wp2_with fail
  go_ret
  exact⟨b8 (by simp[oQ,b]),rfl⟩
 ·go_wp2_with fail
  go_ret
  exact⟨b8 (by simp[oQ];omega),rfl⟩
theorem pH(x y:Int)(w:ah):au 207 #[ae x,ae y] w λe w'=>e=aw (.agg #[ae (jl x y).1,ae (jl x y).2])/\ap w w':=by
 go_enter func207,ntmps207;go_wp2_with fail
 all_goals
  exact aE (v:=.agg #[ae (jl x y).1,ae (jl x y).2]) (by simp[results,results207,go_sem,jl]<;>omega) rfl ⟨rfl,aW _ _⟩
theorem kP{e sz:Nat}{v:az}{xs:dI}(d:w.ownsRow base e sz v n xs)(c:(w.alloc o).grownBy p v.ownBlock)(f:base<=w.heap.size):Below base w p:=by
 have a:Below base w (w.alloc o):=(aH _ _).alloc f _;refine⟨c.os.trans a.os,c.tape.trans a.tape,c.output.trans a.output,aG a.size c.size,λb g=>(c.block b (by simp;omega) λe=>?_).trans (a.block b g)⟩;have:=(d.lt b e.symm).1;omega
theorem AH(b:dp x)(c:dp y):I2 (jl x y):=by
 rcases io x y with⟨a,_⟩|⟨a,_⟩<;>rw[a]
 ·exact⟨b,c⟩
 ·exact⟨c,b⟩
theorem Qd(b:Nat)(a:b<=1000):dp (b:Int):=by unfold dp;omega
theorem Ki(g:bE->Bool)(i:BL)(mo:dd)(x:Int)(w:ah)(ag:i.b<w.heap.size)(ar:Hid (dp x))(ab:Hid (ai w i.b (i.o) (.map mo)))(s:Hid (∀k,I2 k->∀W,ap w W->(Instr.lookup 135 (.map mo) (pk k) true).run Tryz.prog W=.ok (ax #[.agg #[],.bool (g k)]) W)):au 206 #[.pointer (some ⟨i.b,i.o,none⟩),ae x] w λe w'=>∃v,e=aw v/\Hid (iT w.heap.size v (rL g x) w'/\ap w w'):=by
 obtain⟨C,hit,am,an,ao⟩:=bT Gs;have l:Hid (Tryz.prog.info? 3=some C/\C.zero=some (ae 0)/\C.size=1/\C.bytes=8):=⟨hit,am,an,ao⟩;clear hit am an ao;go_enter func206,ntmps206;go_wp2_with fail;go_loopw [5,6] (λv aa wr=>∃(b:Nat),1<=b/\b<=100/\aa=ae b/\(∃q d c,v=af q d c/\d<=99/\Hid ((sB g x (b-1)).length=d/\wr.ownsRow w.heap.size 3 1 (af q d c) d (jd (sB g x (b-1)))/\ap w wr))) (λ_ aa _=>100-(intOf aa).toNat)
 case atStart=>exact⟨1,by omega,by omega,rfl,none,0,0,rfl,by omega,rfl,⟨rfl,ak ⟨rfl,rfl⟩⟩,aH _ _⟩
 case round=>
  obtain⟨b,aD,F,rfl,q,d,c,rfl,X,a⟩:=hrel;by_cases aB:b<=99
  ·have aC:(b:Int)<=99:=by omega
   have V:ai wr i.b (i.o) (.map mo):=(a.2.2.cell (p:=⟨i.b,i.o,none⟩) ag).trans ab;have ad:Hid (I2 (jl x b)):=AH ar (Qd b (by omega));have j:Hid (sB g x b=sB g x (b-1)++if g (jl x b)then [(b:Int)]else []):=by
    have y:=IS g x (b-1) (by omega);have ay:b-1+1=b:=by omega
    have az:((b-1:Nat):Int)+1=(b:Int):=by omega
    rw[ay,az]at y;exact y
   have O:=λW Y=>s (jl x b) ad W (a.2.2.trans (Below.mono Y a.2.2.size));have Z:=λW=>pH x b W;obtain⟨t,al⟩:∃t,t=g (jl x b):=⟨_,rfl⟩;rw[<-al]at O j;have U:=av (show d<=b-1 by have:=CP g x (b-1);have:=a.1;omega);unfold pk at O;obtain⟨⟨aE,aF⟩,aA⟩:∃p,p=jl x b:=⟨_,rfl⟩;rw[<-aA]at O Z;have J:=av Z;replace s:=av O;have B:Hid (∀W,ap wr W->ai W i.b (i.o) (.map mo)):=λW Y=>((a.2.2.trans (Below.mono Y a.2.2.size)).cell (p:=⟨i.b,i.o,none⟩) ag).trans ab;have D:Hid (ap wr wr.drew):=(aH _ _).drew;have E:Hid (∀o:Obj,ap wr (wr.alloc o).drew):=λo=>(aW _ o).drew;clear al O Z ad;go_wp2_with fail
   go_region_held3 (λW=>W.cell? ⟨i.b,i.o,none⟩=some (.map mo)) (first|(go_keep;done)|exact B _ D|exact B _ (E _)|exact B _ (f.alloc f.size _)|exact B _ f) ((first
    | (go_at_call 207;refine(J _).mono ?_;rintro e G ⟨rfl,F⟩;have f:=av (D.trans (F.mono D.size));have T:=s _ f;have aj:=s _ (f.alloc f.size (.cells #[] 301));clear F)
    | (go_at_call 207;refine(J _).mono ?_;rintro e G ⟨rfl,F⟩;have f:=av ((E _).trans (F.mono (E _).size));have T:=s _ f;clear F)))
   ·obtain⟨h,r⟩:∃h,h=G.alloc (.cells #[] 301):=⟨_,rfl⟩;rw[<-r];have n:Hid (ap wr h):=by rw[r];exact f.alloc f.size _
    obtain⟨R,Q⟩:∃R,R=G.heap.size:=⟨_,rfl⟩;rw[<-Q];clear r aj Q;have HB:=av (a.2.2.trans (n.mono a.2.2.size));have m:=av (bD a.2.1 (aR n λ_=>False) λ_ _ y=>y);have u:=av a.1;have K:=av HB.size;clear a f n s J B D E T V;cases t
    ·go_wp2_with fail;go_roundw
     case rel=>exact⟨b+1,by omega,by omega,by go_num,q,d,c,rfl,X,by rw[eu,j.out];simpa using u.out,by rw[eu,j.out];simpa using m.out,HB.out⟩
     case measure=>simp[intOf];omega
    ·go_wp2_with (first
       | (at_builtin;refine wpList_append_lies _ rfl _ _ 107 rfl w.heap.size 3 C _ 1 8 underlying107 l.1 l.2.1 l.2.2.1 l.2.2.2 rfl (by decide) (af q d c) d (jd (sB g x (b-1))) rfl (m.alloc _) ⟨h.heap.size,0,none⟩ 1 1 [ae b] rfl rfl (World.news_of_block (cs:= #[ae b]) (t:=3) (fr:=(0,0)) (aL h _)) (by simp[Value.oneCell']) (by decide) (by unfold maxLen;omega) (by omega) (by have:=K.out;simp;omega) _ rfl ?_;intro M L aq A z N P;have I:=av A;have H:=av (HB.trans (kP m z HB.size));clear A z N P))
     go_roundw
     case rel=>
      refine⟨b+1,by omega,by omega,by go_num,some ⟨M,0,none⟩,d+1,L,rfl,by have:=U.out;omega,?_,?_,H⟩
      ·rw[eu,j.out];simpa using u.out
      ·rw[eu,j.out,if_pos rfl,mz];exact I
     case measure=>simp[intOf];omega
   ·obtain⟨h,r⟩:∃h,h=G.alloc (.cells #[] 301):=⟨_,rfl⟩;rw[<-r];have n:Hid (ap wr h):=by rw[r];exact f.alloc f.size _
    obtain⟨R,Q⟩:∃R,R=G.heap.size:=⟨_,rfl⟩;rw[<-Q];clear r Q;have HB:=av (a.2.2.trans (n.mono a.2.2.size));have m:=av (bD a.2.1 (aR n λ_=>False) λ_ _ y=>y);have u:=av a.1;have K:=av HB.size;clear a f n s J B D E T aj V;cases t
    ·go_wp2_with fail;go_roundw
     case rel=>exact⟨b+1,by omega,by omega,by go_num,q,d,c,rfl,X,by rw[eu,j.out];simpa using u.out,by rw[eu,j.out];simpa using m.out,HB.out⟩
     case measure=>simp[intOf];omega
    ·go_wp2_with (first
       | (at_builtin;refine wpList_append_lies _ rfl _ _ 107 rfl w.heap.size 3 C _ 1 8 underlying107 l.1 l.2.1 l.2.2.1 l.2.2.2 rfl (by decide) (af q d c) d (jd (sB g x (b-1))) rfl (m.alloc _) ⟨h.heap.size,0,none⟩ 1 1 [ae b] rfl rfl (World.news_of_block (cs:= #[ae b]) (t:=3) (fr:=(0,0)) (aL h _)) (by simp[Value.oneCell']) (by decide) (by unfold maxLen;omega) (by omega) (by have:=K.out;simp;omega) _ rfl ?_;intro M L aq A z N P;have I:=av A;have H:=av (HB.trans (kP m z HB.size));clear A z N P))
     go_roundw
     case rel=>
      refine⟨b+1,by omega,by omega,by go_num,some ⟨M,0,none⟩,d+1,L,rfl,by have:=U.out;omega,?_,?_,H⟩
      ·rw[eu,j.out];simpa using u.out
      ·rw[eu,j.out,if_pos rfl,mz];exact I
     case measure=>simp[intOf];omega
   ·obtain⟨h,r⟩:∃h,h=G:=⟨_,rfl⟩;subst r;have n:=av f.out;have HB:=av (a.2.2.trans (n.mono a.2.2.size));have m:=av (bD a.2.1 (aR n λ_=>False) λ_ _ y=>y);have u:=av a.1;have K:=av HB.size;clear a f n s J B D E T V;cases t
    ·go_wp2_with fail;go_roundw
     case rel=>exact⟨b+1,by omega,by omega,by go_num,q,d,c,rfl,X,by rw[eu,j.out];simpa using u.out,by rw[eu,j.out];simpa using m.out,HB.out⟩
     case measure=>simp[intOf];omega
    ·go_wp2_with (first
       | (at_builtin;refine wpList_append_lies _ rfl _ _ 107 rfl w.heap.size 3 C _ 1 8 underlying107 l.1 l.2.1 l.2.2.1 l.2.2.2 rfl (by decide) (af q d c) d (jd (sB g x (b-1))) rfl (m.alloc _) ⟨h.heap.size,0,none⟩ 1 1 [ae b] rfl rfl (World.news_of_block (cs:= #[ae b]) (t:=3) (fr:=(0,0)) (aL h _)) (by simp[Value.oneCell']) (by decide) (by unfold maxLen;omega) (by omega) (by have:=K.out;simp;omega) _ rfl ?_;intro M L aq A z N P;have I:=av A;have H:=av (HB.trans (kP m z HB.size));clear A z N P))
     go_roundw
     case rel=>
      refine⟨b+1,by omega,by omega,by go_num,some ⟨M,0,none⟩,d+1,L,rfl,by have:=U.out;omega,?_,?_,H⟩
      ·rw[eu,j.out];simpa using u.out
      ·rw[eu,j.out,if_pos rfl,mz];exact I
     case measure=>simp[intOf];omega
  ·obtain rfl:b=100:=by omega
   have S:=a.out;go_wp2_with fail
   go_ret
   refine⟨_,rfl,?_,S.2.2⟩;have e:=Lw g x;rw[show 100-1=99 from rfl]at S;rw[<-e];unfold iT;rw[S.1];exact S.2.1
def fe(base:Nat)(a:BL)(mo:dd)(n:Nat)(g:bE->Bool)(w:ah):Prop:=
 base<=a.b/\uC a mo w/\((mo=none/\g=λ_=>false)\/∃mb,mo=some mb/\SM base mb n g w)
def MQ(a:BL)(mo:dd)(b:Nat):Prop:=b=a.b\/mo=some b
variable {base n:Nat} {bp:BL} {mo:dd} {g:bE->Bool} {w:ah}
theorem fe.lt(d:fe base bp mo n g w)(b:Nat)(a:MQ bp mo b):base<=b/\b<w.heap.size:=by
 rcases a with rfl|a
 ·exact⟨d.1,d.2.1.lt⟩
 ·rcases d.2.2 with⟨c,_⟩|⟨mb,c,e⟩
  ·rw[c]at a;cases a
  ·rw[c]at a;injection a with a;subst a;exact e.lt
theorem fe.kee{S:aX}{w':ah}(c:fe base bp mo n g w)(k:bH S w w')(d:∀b,MQ bp mo b->¬S b):fe base bp mo n g w':=by
 refine⟨c.1,c.2.1.kept (k.block bp.b (c.lt bp.b (ak rfl)).2 (d bp.b (ak rfl))),?_⟩;rcases c.2.2 with a|⟨mb,a,e⟩
 ·exact ak a
 ·exact am ⟨mb,a,e.kee k (d mb (am a))⟩
theorem fe.later(a:fe base bp mo n g w)(k:ap w w'):fe base bp mo n g w':=a.kee (aR k λ_=>False) λ_ _ a=>a
theorem fe.cell(a:fe base bp mo n g w):ai w bp.b (bp.o) (.map mo)/\w.frozen? ⟨bp.b,bp.o,none⟩=false:=⟨a.2.1.cell.1,a.2.1.cell.2 _⟩
theorem fe.look(b:fe base bp mo n g w){k:bE}(a:I2 k):(Instr.lookup 135 (.map mo) (pk k) true).run Tryz.prog w=.ok (ax #[.agg #[],.bool (g k)]) w:=by
 rcases b.2.2 with⟨rfl,rfl⟩|⟨mb,rfl,c⟩
 ·exact Fu w a
 ·exact c.look a
theorem fe.ne(c:fe base bp (some h) n g w):bp.b≠h:=by
 intro e;rcases c.2.2 with⟨a,_⟩|⟨k,a,f⟩
 ·cases a
 ·injection a with a;subst a e;obtain⟨i,⟨es,j,d,_⟩,_⟩:=f.map;rw[c.2.1.2]at d;cases d
theorem MT(a:fe base bp mo n g w)(f:dp x):au 206 #[.pointer (some ⟨bp.b,bp.o,none⟩),ae x] w λe w'=>∃v,e=aw v/\Hid (iT w.heap.size v (rL g x) w'/\ap w w'):=
 Ki g bp mo x w (a.lt bp.b (ak rfl)).2 f a.cell.1 λ_ d _ c=>(a.later c).look d
theorem MV(mb:Nat)(W:ah):(binOp .eql 135 (.map (some mb)) (.map none)).run Tryz.prog W=.ok (.bool false) W:=by kernel_rfl
theorem MU(W:ah):(binOp .eql 135 (.map none) (.map none)).run Tryz.prog W=.ok (.bool true) W:=by kernel_rfl
theorem Kg(bp:BL)(mb:Nat)(x y:Int)(w:ah)(g:bF)(v:bp.b<w.heap.size)(i:Hid (ai w bp.b (bp.o) (.map (some mb))))(l:Hid (oQ x=true/\oQ y=true))(C:x≠y)(k:Hid (∀W,ap w W->∃w2,(Instr.mapUpdate 135 (.map (some mb)) (.agg #[ae (jl x y).1,ae (jl x y).2]) (.agg #[])).run Tryz.prog W=.ok () w2/\ai w2 bp.b (bp.o) (.map (some mb))/\Hid (g w2))):au 184 #[.pointer (some ⟨bp.b,bp.o,none⟩),ae x,ae y] w λe w'=>e=aw (ae 0)/\g w':=by
 have B:=i.out;have c:=λW=>mV x W;have d:=λW=>mV y W;have D:=MV mb;rw[l.out.1]at c;rw[l.out.2]at d;have n:=av c;have q:=av d;clear c d;have f:=λW=>pH x y W;obtain⟨⟨F,G⟩,A⟩:∃p,p=jl x y:=⟨_,rfl⟩;rw[<-A]at f k;have t:=av f;clear f;have j:Hid (∀W,ap w W->ai W bp.b (bp.o) (.map (some mb))):=λW u=>(u.cell (p:=⟨bp.b,bp.o,none⟩) v).trans i;have a:Hid (ap w w.drew):=(aH _ _).drew;go_enter func184,ntmps184;go_wp2_with fail;refine(n _).mono ?_;rintro e H ⟨rfl,rfl⟩;go_wp2_with fail;refine(q _).mono ?_;rintro e w2 ⟨rfl,rfl⟩;go_wp2_with fail
 go_region_held3 (λW=>W.cell? ⟨bp.b,bp.o,none⟩=some (.map (some mb))) (first|(go_keep;done)|exact j _ a|exact j _ h|exact r) ((first
       | (go_at_call 207;refine(t _).mono ?_;rintro e I ⟨rfl,m⟩;have h:=av (a.trans (m.mono a.size));obtain⟨J,E,z,s⟩:=k _ h;have r:=av z;clear m)))
 go_wp2_with fail
 go_ret
 exact⟨rfl,s⟩
theorem Hc(bp:BL)(x y:Int)(w w0:ah)(g:bF)(F:bp.b<w.heap.size)(s:Hid (ai w bp.b (bp.o) (.map none)/\w.frozen? ⟨bp.b,bp.o,none⟩=false))(l:Hid (oQ x=true/\oQ y=true))(H:x≠y)(n:w0=(w.setCell ⟨bp.b,bp.o,none⟩ (.map (some w.heap.size))).alloc (.map #[] 0))(i:Hid (ai w0 bp.b (bp.o) (.map (some w.heap.size))))(B:bp.b<w0.heap.size)(k:Hid (∀W,ap w0 W->∃w2,(Instr.mapUpdate 135 (.map (some w.heap.size)) (.agg #[ae (jl x y).1,ae (jl x y).2]) (.agg #[])).run Tryz.prog W=.ok () w2/\ai w2 bp.b (bp.o) (.map (some w.heap.size))/\Hid (g w2))):au 184 #[.pointer (some ⟨bp.b,bp.o,none⟩),ae x,ae y] w λe w'=>e=aw (ae 0)/\g w':=by
 obtain⟨E,f0⟩:=s;have c:=λW=>mV x W;have d:=λW=>mV y W;have I:=MU;have G:= @run_makeMap Tryz.prog;rw[l.out.1]at c;rw[l.out.2]at d;have q:=av c;have r:=av d;clear c d;have f:=λW=>pH x y W;obtain⟨⟨K,L⟩,D⟩:∃p,p=jl x y:=⟨_,rfl⟩;rw[<-D]at f k;have v:=av f;have z:=av n;clear f n;have j:Hid (∀W,ap w0 W->ai W bp.b (bp.o) (.map (some w.heap.size))):=λW A=>(A.cell (p:=⟨bp.b,bp.o,none⟩) B).trans i;have a:Hid (ap w0 w0.drew):=(aH _ _).drew;go_enter func184,ntmps184;go_wp2_with fail;refine(q _).mono ?_;rintro e M ⟨rfl,rfl⟩;go_wp2_with fail;refine(r _).mono ?_;rintro e w2 ⟨rfl,rfl⟩;go_wp2_with fail;rw[<-z.out];have d0:=i.out
 go_region_held3 (λW=>W.cell? ⟨bp.b,bp.o,none⟩=some (.map (some w2.heap.size))) (first|(go_keep;done)|exact j _ a|exact j _ h|exact t) ((first
       | (go_at_call 207;refine(v _).mono ?_;rintro e N ⟨rfl,m⟩;have h:=av (a.trans (m.mono a.size));obtain⟨O,J,C,u⟩:=k _ h;have t:=av C;clear m)))
 go_wp2_with fail
 go_ret
 exact⟨rfl,u⟩
theorem Hb(bp:BL)(x y:Int)(w:ah)(a:oQ x=false\/oQ y=false\/x=y):au 184 #[.pointer (some ⟨bp.b,bp.o,none⟩),ae x,ae y] w λe w'=>e=aw (ae 1)/\w'=w:=by
 have f:=λc=>mV x c;have g:=λc=>mV y c;obtain⟨d,h⟩:∃d,d=oQ x:=⟨_,rfl⟩;obtain⟨b,i⟩:∃b,b=oQ y:=⟨_,rfl⟩;rw[<-h]at f a;rw[<-i]at g a;have k:=av f;have l:=av g;have m:=av a;clear f g h i a;go_enter func184,ntmps184;go_wp2_with fail;refine(k _).mono ?_;rintro e p ⟨rfl,rfl⟩;cases d
 ·go_wp2_with fail
  go_ret
  exact⟨rfl,rfl⟩
 ·go_wp2_with fail;refine(l _).mono ?_;rintro e q ⟨rfl,rfl⟩;cases b
  ·go_wp2_with fail
   go_ret
   exact⟨rfl,rfl⟩
  ·have j:x=y:=by simpa using m.out
   have n:=av j;subst j;go_wp2_with fail
   go_ret
   exact⟨rfl,rfl⟩
variable {base n:Nat} {bp:BL} {mo:dd} {g:bE->Bool} {w:ah}
def wE(x y:Int):Int:=if oQ x=true/\oQ y=true/\x≠y then 0 else 1
def OE(base:Nat)(bp:BL)(mo:dd)(n:Nat)(g:bE->Bool)(w w':ah):Prop:=
 ∃a,fe base bp a n g w'/\bH (MQ bp mo) w w'/\∀b,MQ bp a b->MQ bp mo b\/w.heap.size<=b
theorem fe.mono(b:fe base bp mo n g w){m:Nat}(c:n<=m):fe base bp mo m g w:=by
 refine⟨b.1,b.2.1,?_⟩;rcases b.2.2 with a|⟨mb,a,d⟩
 ·exact ak a
 ·exact am ⟨mb,a,d.mono c⟩
theorem Ha(a:fe base bp mo n g w)(A:dp x)(B:dp y)(z:n<1000000):au 184 #[.pointer (some ⟨bp.b,bp.o,none⟩),ae x,ae y] w λe w'=>e=aw (ae (wE x y))/\Hid (OE base bp mo (n+1) (if wE x y=0 then iz g (jl x y) true else g) w w'):=by
 have r:=a.lt bp.b (ak rfl);by_cases f:oQ x=true/\oQ y=true/\x≠y
 ·have q:wE x y=0:=if_pos f;rw[q,if_pos rfl];rcases a.2.2 with⟨rfl,rfl⟩|⟨p,rfl,E⟩
  ·obtain⟨h,l⟩:∃h,h=(w.setCell ⟨bp.b,bp.o,none⟩ (.map (some w.heap.size))).alloc (.map #[] 0):=⟨_,rfl⟩;have H:bH (λb=>b=bp.b) w (w.setCell ⟨bp.b,bp.o,none⟩ (.map (some w.heap.size))):=bO w bp.b bp.o _;have t:(w.setCell ⟨bp.b,bp.o,none⟩ (.map (some w.heap.size))).heap.size=w.heap.size:=by simp[World.setCell]
   have G:bH (λb=>b=bp.b) w h:=by
    rw[l];exact bH.trans H (aR (aW _ _) λ_=>False) λ_ _ a=>a.elim
   have u:uC bp (some w.heap.size) h:=by
    rw[l];exact(a.2.1.set).kept ((aW _ _).block bp.b (by rw[t];exact r.2))
   have I:h.heap.size=w.heap.size+1:=by rw[l,fP,t]
   have D:SM base w.heap.size n (λ_=>false) h:=by
    have v:=SM.new (w.setCell ⟨bp.b,bp.o,none⟩ (.map (some w.heap.size)));rw[t,<-l]at v;exact(v.rebase (by omega)).mono (aN _)
   refine(Hc bp x y w h (λw'=>OE base bp none (n+1) (iz (λ_=>false) (jl x y) true) w w') r.2 a.cell ⟨f.1,f.2.1⟩ f.2.2 l u.cell.1 (by omega) ?_).mono λe w' a=>⟨a.1,a.2⟩;intro C d;obtain⟨m,s,i,k,F⟩:=(D.later d).put (AH A B) z;have j:uC bp (some w.heap.size) m:=(u.kept (d.block bp.b (by omega))).kept (k.block bp.b (by have:=d.size;omega) (by omega));refine⟨m,s,j.cell.1,some w.heap.size,⟨a.1,j,am ⟨_,rfl,i⟩⟩,?_,λb c=>?_⟩
   ·refine bH.trans (bH.trans (G.mono λb _ e=>ak e) (aR d λ_=>False) λ_ _ a=>a.elim) k λb c e=>?_;omega
   ·rcases c with c|c
    ·exact ak (ak c)
    ·injection c with c;exact am (by omega)
  ·refine(Kg bp p x y w (λw'=>OE base bp (some p) (n+1) (iz g (jl x y) true) w w') r.2 a.cell.1 ⟨f.1,f.2.1⟩ f.2.2 ?_).mono λe w' a=>⟨a.1,a.2⟩;intro C d;obtain⟨m,s,i,k,F⟩:=(E.later d).put (AH A B) z;have j:uC bp (some p) m:=(a.2.1.kept (d.block bp.b (by omega))).kept (k.block bp.b (by have:=d.size;omega) a.ne);refine⟨m,s,j.cell.1,some p,⟨a.1,j,am ⟨_,rfl,i⟩⟩,?_,λb c=>ak c⟩;exact bH.trans (aR d _) k λb _ e=>am (by rw[e])
 ·have q:wE x y=1:=if_neg f;rw[q,if_neg (by decide)];refine(Hb bp x y w ?_).mono ?_
  ·cases h1:oQ x
   ·exact ak rfl
   ·cases i:oQ y
    ·exact am (ak rfl)
    ·refine am (am ?_);by_cases e:x=y
     ·exact e
     ·exact absurd ⟨h1,i,e⟩ f
  ·rintro e w' ⟨rfl,rfl⟩;exact⟨rfl,mo,a.mono (fO n),bH.refl _ _,λb c=>ak c⟩
theorem EE(a:ay)(c:Nat)(l:List Int)(L:Nat)(y:Int)(w:ah)(x:L<=1000000)(n:Hid (l.length=L))(q:Hid (∀(i:Nat)(k:Int),l[i]?=some k->∃g o,a=some ⟨g,o,none⟩/\ai w g (o+i) (ae k))):au 208 #[af a L c,ae y] w λe w'=>∃r:Int,e=aw (ae r)/\w'=w/\Hid (decide (0<=r)=l.contains y):=by
 go_enter func208,ntmps208;go_wp2_with fail;go_loopw [8] (λi wr=>∃b:Nat,b<=L/\i=ae b/\wr=w/\Hid (y∉l.take b)) (λi _=>L-(intOf i).toNat)
 case atStart=>exact⟨0,aN _,rfl,rfl,by simp[Hid]⟩
 case round=>
  obtain⟨b,u,rfl,rfl,p⟩:=hrel;by_cases s:b<L
  ·obtain⟨k,j⟩:∃k,l[b]?=some k:=⟨l[b]'(by rw[n.out];exact s),aV _⟩;obtain⟨g,o,rfl,t⟩:=q b k j;have m:=av j;clear j;have z:(0:Int)<=(b:Int):=by omega
   have A:(b:Int)<(L:Int):=by omega
   by_cases h:y=k
   ·have f:Hid (l.contains y=true):=by
      rw[h];exact List.contains_iff_mem.2 (aU m)
    subst h;go_wp2_with fail
    go_ret
    exact⟨(b:Int),rfl,rfl,by rw[f.out];simp[Hid]⟩
   ·have f:Hid (y∉l.take (b+1)):=by
      rw[dL,m.out];intro d;rcases dv.1 d with d|d
      ·exact p d
      ·exact h (by simpa using d)
    have v:¬k=y:=λe=>h e.symm;go_wp2_with fail;go_roundw
    case rel=>exact⟨b+1,by omega,by go_num,trivial,f⟩
    case measure=>simp[intOf];omega
  ·obtain rfl:b=L:=by omega
   have f:Hid (l.contains y=false):=by
    have d:=p.out;rw[bI (by rw[n.out];exact aA _)]at d;exact(show l.contains y=false by simpa using d)
   go_wp2_with fail
   go_ret
   exact⟨-1,rfl,rfl,by rw[f.out];simp[Hid]⟩
theorem JV.cells{v:az}(b:JV v l w):∃a c,v=af a l.length c/\∀(i:Nat)(k:Int),l[i]?=some k->∃g o,a=some ⟨g,o,none⟩/\ai w g (o+i) (ae k):=by
 obtain⟨a,c,d,b⟩:=b;refine⟨a,c,d,λi k e=>?_⟩;rcases b with rfl|⟨g,o,d,_,b⟩
 ·simp at e
 ·exact⟨g,o,d,b i k e⟩
theorem wg(v:az)(y:Int)(t:Bool)(w:ah)(a:Hid (au 208 #[v,ae y] w λe w'=>∃r:Int,e=aw (ae r)/\w'=w/\Hid (decide (0<=r)=t))):au 182 #[v,ae y] w λe w'=>e=aw (.bool t)/\w'=w:=by
 go_enter func182,ntmps182;go_wp2_with fail;refine a.mono ?_;rintro e c ⟨r,rfl,rfl,b⟩;go_wp2_with fail
 go_ret
 exact⟨b8 (by rw[<-b.out]),rfl⟩
theorem xC{v:az}(b:JV v l w)(f:l.length<=1000000)(y:Int):au 182 #[v,ae y] w λe w'=>e=aw (.bool (l.contains y))/\w'=w:=by
 obtain⟨a,c,e,d⟩:=b.cells;rw[e];exact wg _ y _ w (EE a c l l.length y w f rfl d)
theorem D0(l:List Int)(L:Nat)(bp:BL)(mo:dd)(x:Int)(w:ah)(R:ay->Nat->Nat->bF)(J:L<=99)(C:Hid (l.length=L))(D:Hid (au 206 #[.pointer (some ⟨bp.b,bp.o,none⟩),ae x] w λe w'=>∃a c,e=aw (af a L c)/\Hid (R a c 0 w')))(f:Hid (∀a c j W,R a c j W->ai W bp.b (bp.o) (.map mo)/\∀(i:Nat)(k:Int),l[i]?=some k->∃g o,a=some ⟨g,o,none⟩/\ai W g (o+i) (ae k)))(HB:Hid (∀a c j W d,R a c j W->ap W d->R a c j d))(A:Hid (∀a c j k W,R a c j W->l[j]?=some k->∃d,(∀ty,(Builtin.delete_ #[135,51] ty #[.map mo,.agg #[ae (jl x k).1,ae (jl x k).2]]).run Tryz.prog W=.ok (ax #[]) d)/\R a c (j+1) d)):au 181 #[.pointer (some ⟨bp.b,bp.o,none⟩),ae x] w λe w'=>∃a c,e=aw (af a L c)/\Hid (R a c L w'):=by
 go_enter func181,ntmps181;go_wp2_with fail;refine D.mono ?_;rintro e S ⟨a,c,rfl,z⟩;go_wp2_with fail;go_loopw [13] (λi wr=>∃j:Nat,j<=L/\i=ae j/\Hid (R a c j wr)) (λi _=>L-(intOf i).toNat)
 case atStart=>exact⟨0,aN _,rfl,z⟩
 case round=>
  obtain⟨j,K,rfl,h⟩:=hrel;by_cases F:j<L
  ·obtain⟨k,m⟩:∃k,l[j]?=some k:=⟨l[j]'(by rw[C.out];exact F),aV _⟩;obtain⟨H,y⟩:=f.out a c j wr h;obtain⟨g,o,rfl,I⟩:=y j k m;have B:=av m;clear m y;have N:(0:Int)<=(j:Int):=by omega
   have O:(j:Int)<(L:Int):=by omega
   have s:=av (λW=>pH x k W);have q:=av (λW (E:R (some ⟨g,o,none⟩) c j W)=>A _ _ _ k W E B);obtain⟨⟨P,Q⟩,v⟩:∃G,G=jl x k:=⟨_,rfl⟩;rw[<-v]at s q;clear v;have p:Hid (R (some ⟨g,o,none⟩) c j wr.drew):=HB _ _ _ _ _ h (aH _ _).drew;have d0:=(f _ c j _ p).1;go_wp2_with fail
   go_region_held3 (λW=>W.cell? ⟨bp.b,bp.o,none⟩=some (.map mo)) (first|(go_keep;done)|exact(f _ _ _ _ n).1|exact(f _ _ _ _ r).1) ((first
    | (go_at_call 207;refine(s _).mono ?_;rintro e T ⟨rfl,t⟩;have n:=av (HB _ _ _ _ _ p t);obtain⟨U,M,u⟩:=q _ n;have r:=av u;clear t u)))
   go_wp2_with fail;go_roundw
   case rel=>exact⟨j+1,by omega,by go_num,r⟩
   case measure=>simp[intOf];omega
  ·obtain rfl:j=L:=by omega
   go_wp2_with fail
   go_ret
   exact⟨a,c,rfl,h⟩
variable {base n:Nat} {bp:BL} {mo:dd} {g:bE->Bool} {w:ah}
theorem fe.drop(c:fe base bp mo n g w){k:bE}(h:I2 k)(f:mo≠none):∃w2,(∀ty,(Builtin.delete_ #[135,51] ty #[.map mo,pk k]).run Tryz.prog w=.ok (ax #[]) w2)/\fe base bp mo n (iz g k false) w2/\bH (λb=>mo=some b) w w2/\w2.heap.size=w.heap.size:=by
 have i:=λmb (a:mo=some mb)=>(show fe base bp (some mb) n g w from a▸c).ne;rcases c.2.2 with⟨a,_⟩|⟨mb,rfl,l⟩
 ·exact absurd a f
 ·obtain⟨w2,j,e,d,m⟩:=l.drop h 0;refine⟨w2,λty=>j,⟨c.1,c.2.1.kept (d.block bp.b (c.lt bp.b (ak rfl)).2 (i mb rfl)),am ⟨mb,rfl,e⟩⟩,d.mono λb _ a=>by rw[a],m⟩
theorem fe.some(c:fe base bp mo n g w){k:bE}(b:g k=true):mo≠none:=by
 rcases c.2.2 with⟨_,a⟩|⟨mb,a,_⟩
 ·rw[a]at b;cases b
 ·rw[a];simp
theorem tb(p:fe base bp mo n g w)(y:Bn g)(A:dp x):au 181 #[.pointer (some ⟨bp.b,bp.o,none⟩),ae x] w λe w'=>∃v,e=aw v/\Hid (iT w.heap.size v (rL g x) w'/\fe base bp mo n (wo g [x]) w'/\bH (λb=>mo=some b) w w'):=by
 have G:∀b,mo=some b->b<w.heap.size:=λb e=>(p.lt b (am e)).2;have D:∀(d:ay)(c h:Nat)(k:Int)(a:ah),(iT w.heap.size (.slice d (rL g x).length c) (rL g x) a/\fe base bp mo n (uG g x ((rL g x).take h)) a/\bH (λb=>mo=some b) w a)->(rL g x)[h]?=some k->∃m,(∀ty,(Builtin.delete_ #[135,51] ty #[.map mo,.agg #[ae (jl x k).1,ae (jl x k).2]]).run Tryz.prog a=.ok (ax #[]) m)/\(iT w.heap.size (.slice d (rL g x).length c) (rL g x) m/\fe base bp mo n (uG g x ((rL g x).take (h+1))) m/\bH (λb=>mo=some b) w m):=by
  rintro d c h k a ⟨j,f,s⟩ l;have F:=gW.1 (aU l);have B:I2 (jl x k):=AH A (by unfold dp;omega);have E:uG g x ((rL g x).take h) (jl x k)=true:=by
   refine BP.2 ⟨F.2,λP I e=>?_⟩;rcases NQ.1 e with⟨_,e⟩|⟨t,u⟩
   ·exact ur (pR g x) l (e▸I)
   ·exact absurd (aU l) (by rw[u];exact CO y x)
  obtain⟨K,H,i,z,O⟩:=f.drop B (f.some E);refine⟨K,H,bD j z λb i e=>?_,?_,bH.trans s z λb _ e=>e⟩
  ·have:=(j.lt b i).1;have:=G b e;omega
  ·rw[dL,l];rw[show (some k).toList=[k]from rfl,Hj];exact i
 refine(D0 (rL g x) (rL g x).length bp mo x w (λd c h a=>iT w.heap.size (.slice d (rL g x).length c) (rL g x) a/\fe base bp mo n (uG g x ((rL g x).take h)) a/\bH (λb=>mo=some b) w a) (wO g x) rfl ?_ ?_ ?_ D).mono ?_
 ·refine(MT p A).mono ?_;rintro e w' ⟨v,rfl,q⟩;obtain⟨d,c,e,_⟩:=q.out.1.row;subst e;exact⟨d,c,rfl,q.1,p.later q.2,aR q.2 _⟩
 ·rintro d c h a ⟨j,f,_⟩;refine⟨f.cell.1,λJ k l=>?_⟩;obtain⟨L,M,e,C⟩:=j.row.cells;injection e with t u N;subst t;exact C J k l
 ·rintro d c h a m ⟨j,f,s⟩ i;exact⟨j.later i,f.later i,bH.trans s (aR i λ_=>False) λ_ _ p=>p.elim⟩
 ·rintro e w' ⟨d,c,rfl,r⟩;refine⟨_,rfl,r.1,?_,r.2.2⟩;have f:=r.2.1;rw[bI (aA _),M3 y]at f;exact f
def gg(g:bE->Bool)(x:Int)(i:Nat)(l:List Int)(j:Nat):List Int:=dz g x i++Az (dz g x i) (l.take j)
theorem rF(b:l.Nodup)(a:l[j]?=some y):gg g x i l (j+1)=gg g x i l j++if (gg g x i l j).contains y then []else [y]:=by
 unfold gg;rw[dL,a];rw[show (some y).toList=[y]from rfl,IL _ _ _ (ur b a),lB]
theorem zu(a:(dz g x i)[i]?=some y):gg g x i (rL (wo g (x::(dz g x i).take i)) y) (rL (wo g (x::(dz g x i).take i)) y).length=dz g x (i+1):=by
 rw[dz,a];unfold gg;rw[bI (aA _)]
theorem Mj(b:Bn g)(c:(dz g x i)[i]?=some y)(j:Nat):(gg g x i (rL (wo g (x::(dz g x i).take i)) y) j).length<=99:=by
 have a:=(jt b x (i+1)).le;rw[<-zu c]at a;refine aG ?_ a;unfold gg;rw[br,br];refine Nat.add_le_add_left ?_ _;rw[bI (aA _)];exact(List.Sublist.filter _ (List.take_sublist j _)).length_le
theorem Oi(a:(dz g x i)[i]?=some y):wo (wo g (x::(dz g x i).take i)) [y]=wo g (x::(dz g x (i+1)).take (i+1)):=by
 rw[Ql];have b:=(bj.1 a).1;rw[dz,a];simp only;rw[ku (by omega),dL,a];rfl
variable {base n:Nat} {bp:BL} {mo:dd} {g:bE->Bool} {w:ah}
def OH(base:Nat)(bp:BL)(mo:dd)(n:Nat)(g:bE->Bool)(x:Int)(j:Nat)(a:ay)(L c:Nat)(w W:ah):Prop:=
 (dz g x j).length=L/\iT w.heap.size (af a L c) (dz g x j) W/\fe base bp mo n (wo g (x::(dz g x j).take j)) W/\bH (λb=>mo=some b) w W
def ON(base:Nat)(bp:BL)(mo:dd)(n:Nat)(g:bE->Bool)(x:Int)(j:Nat)(l:List Int)(d:ay)(e:Nat)(q:Nat)(a:ay)(L c:Nat)(w W:ah):Prop:=
 (gg g x j l q).length=L/\iT w.heap.size (af a L c) (gg g x j l q) W/\iT w.heap.size (af d l.length e) l W/\(∀b,(Value.slice a L c).ownBlock=some b->(Value.slice d l.length e).ownBlock≠some b)/\fe base bp mo n (wo g (x::(dz g x (j+1)).take (j+1))) W/\bH (λb=>mo=some b) w W
theorem uw{v:az}{a:ay}(b:JV v l w)(e:v=af a L c)(i:Nat)(k:Int)(h:l[i]?=some k):∃g o,a=some ⟨g,o,none⟩/\ai w g (o+i) (ae k):=by
 obtain⟨j,m,d,b⟩:=b.cells;rw[e]at d;injection d with f n p;subst f;exact b i k h
theorem ON.more{z:ay}{a:ay}(B:ON base bp mo n g x j l z h q a L c w W)(I:l.Nodup)(M:∀b,MQ bp mo b->b<w.heap.size)(N:l[q]?=some y)(J:(gg g x j l q).contains y=false){f m:Nat}(K:p.ownsRow w.heap.size 3 1 (af (some ⟨f,0,none⟩) (L+1) m) (L+1) (jd (gg g x j l q)++ [ae y]))(H:(W.alloc o).grownBy p (Value.slice a L c).ownBlock)(G:(Value.slice a L c).ownBlock=some f\/f=(W.alloc o).heap.size):ON base bp mo n g x j l z h (q+1) (some ⟨f,0,none⟩) (L+1) m w p:=by
 obtain⟨r,C,s,t,D,E⟩:=B;have d:gg g x j l (q+1)=gg g x j l q++ [y]:=by
  rw[rF I N,J];rfl
 have F:ap W (W.alloc o):=aW _ _;have k:bH (λb=>(Value.slice a L c).ownBlock=some b) W p:=bH.trans (aR F _) (ex H) λb _ d=>d;have v:∀b,(Value.slice a L c).ownBlock=some b->w.heap.size<=b:=λb e=>(C.lt b e).1;refine⟨by rw[d,br,r];rfl,?_,bD s k λb e d=>t b d e,?_,D.kee k λb e d=>?_,bH.trans E k λb e d=>?_⟩
 ·unfold iT;rw[d,mz,br,r];exact K
 ·intro b e u;have A:f=b:=aJ e;subst A;rcases G with i|i
  ·exact t _ i u
  ·have:=(s.lt _ u).2;simp at i;omega
 ·have:=M b e;have:=v b d;omega
 ·have:=v b d;omega
theorem G9(base:Nat)(bp:BL)(mo:dd)(n:Nat)(g:bE->Bool)(x:Int)(w:ah)(u:Hid (Bn g))(Z:Hid (∀b,MQ bp mo b->b<w.heap.size))(X:Hid (au 181 #[.pointer (some ⟨bp.b,bp.o,none⟩),ae x] w λe w'=>∃a L c,e=aw (af a L c)/\Hid (OH base bp mo n g x 0 a L c w w'))):au 158 #[.pointer (some ⟨bp.b,bp.o,none⟩),ae x,.bool false] w λe w'=>∃v,e=aw v/\Hid (iT w.heap.size v (uy g x) w'/\fe base bp mo n (wo g (x::uy g x)) w'/\bH (λb=>mo=some b) w w'):=by
 obtain⟨B,hit,an,ao,ap⟩:=bT Gs;have F:Hid (Tryz.prog.info? 3=some B/\B.zero=some (ae 0)/\B.size=1/\B.bytes=8):=⟨hit,an,ao,ap⟩;clear hit an ao ap;go_enter func158,ntmps158;go_wp2_with fail;refine X.mono ?_;rintro e ba ⟨a,L,c,rfl,M⟩;go_wp2_with fail;go_loopw [7,8] (λv q wr=>∃(d:Nat)(a:ay)(L c:Nat),v=af a L c/\q=ae d/\d<=99/\L<=99/\Hid (OH base bp mo n g x d a L c w wr)) (λ_ q _=>100-(intOf q).toNat)
 case atStart=>exact⟨0,a,L,c,rfl,rfl,by omega,by have m:=(jt u x 0).le;have p:=M.1;omega,M⟩
 case round=>
  clear M X;obtain⟨d,a,L,c,rfl,rfl,a3,I,h⟩:=hrel;by_cases aM:d<L
  ·obtain⟨r,J⟩:∃r,(dz g x d)[d]?=some r:=⟨(dz g x d)[d]'(by rw[h.out.1];exact aM),aV _⟩;obtain⟨ad,o,rfl,aF⟩:=uw h.2.1.row rfl d r J;have H:=av J;have aC:Hid (dp r):=by
    have:=(jt u x d).rng r (aU J);unfold Hid dp;omega
   clear J;have a6:(0:Int)<=(d:Int):=by omega
   have a7:(d:Int)<(L:Int):=by omega
   have Y:=av (tb h.2.2.1 (u.wo _) aC);go_wp2_with fail;refine Y.mono ?_;rintro e U ⟨aY,rfl,G⟩;obtain⟨l,z⟩:∃l,l=rL (wo g (x::(dz g x d).take d)) r:=⟨_,rfl⟩;rw[<-z]at G;obtain⟨j,k⟩:∃j,j=l.length:=⟨_,rfl⟩;have a2:j<=99:=by
    have:=wO (wo g (x::(dz g x d).take d)) r;rw[k,z];exact this
   obtain⟨K,C,aT⟩:∃K C,aY=af K j C:=by
    obtain⟨aD,aE,e,_⟩:=G.out.1.row;exact⟨aD,aE,by rw[k];exact e⟩
   subst aT;have N:Hid l.Nodup:=by rw[z];exact pR _ _
   have aa:Hid (∀f,(gg g x d l f).length<=99):=by rw[z];exact λf=>Mj u H f
   have aq:Hid (gg g x d l j=dz g x (d+1)):=by rw[k,z];exact zu H
   have W:Hid (ON base bp mo n g x d l K C 0 (some ⟨ad,o,none⟩) L c w U):=by
    have aW:=Oi H (g:=g) (x:=x);have A:=G.out;have aS:∀b,mo=some b->b<w.heap.size:=λb e=>Z b (am e);have aO:bH (λb=>mo=some b) w U:=bH.trans h.2.2.2 A.2.2 λ_ _ e=>e;have ab:gg g x d l 0=dz g x d:=by simp[gg,Az]
    have aR:iT w.heap.size (af (some ⟨ad,o,none⟩) L c) (dz g x d) U:=bD h.2.1 A.2.2 λb R e=>by
     have:=(h.2.1.lt b R).1;have:=aS b e;omega
    refine⟨by rw[ab];exact h.1,by rw[ab];exact aR,?_,?_,?_,aO⟩
    ·rw[<-k];exact sF A.1 h.2.2.2.size
    ·intro b R aj;rw[<-k]at aj;have:=(A.1.lt b aj).1;have:=(h.2.1.lt b R).2;omega
    ·rw[<-aW];exact A.2.1
   replace k:=av k;clear G h Y aF z;go_wp2_with fail;go_loopw [7,28] (λv q wr=>∃(f:Nat)(a:ay)(L c:Nat),v=af a L c/\q=ae f/\f<=j/\L<=99/\Hid (ON base bp mo n g x d l K C f a L c w wr)) (λ_ q _=>j-(intOf q).toNat)
   case atStart=>exact⟨0,_,L,c,rfl,rfl,aN _,I,W⟩
   case round=>
    clear W;obtain⟨f,a,L,c,rfl,rfl,a5,I,i⟩:=hrel;by_cases aQ:f<j
    ·obtain⟨s,T⟩:∃s,l[f]?=some s:=⟨l[f]'(by rw[<-k.out];exact aQ),aV _⟩;obtain⟨aH,aX,rfl,a0⟩:=uw i.2.2.1.row rfl f s T;have Q:=av T;clear T;have a8:(0:Int)<=(f:Int):=by omega
     have a9:(f:Int)<(j:Int):=by omega
     have V:=av (xC i.2.1.row (by rw[i.out.1];omega) s);obtain⟨t,S⟩:∃t,t=(gg g x d l f).contains s:=⟨_,rfl⟩;rw[<-S]at V;have P:=av S;clear S;go_wp2_with fail;refine V.mono ?_;rintro e D ⟨rfl,rfl⟩;cases t
     ·have aZ:=av (aa (f+1));have ax:Hid (L+1<=99):=by
       have m:=aa (f+1);have p:=i.1;rw[rF N.out Q.out,<-P.out,br]at m;simp at m;unfold Hid;omega
      have aB:Hid (w.heap.size<=D.heap.size):=i.2.2.2.2.2.size;have aA:=av i.2.1;have az:=av i.1
      go_wp2_with (first
       | (at_builtin;refine wpList_append_lies _ rfl _ _ 107 rfl w.heap.size 3 B _ 1 8 underlying107 F.1 F.2.1 F.2.2.1 F.2.2.2 rfl (by decide) (af a L c) L (jd (gg g x d l f)) rfl ((show D.ownsRow w.heap.size 3 1 (af a L c) L (jd (gg g x d l f))from by have y:=aA.out;unfold iT at y;rw[az.out]at y;exact y).alloc _) ⟨D.heap.size,0,none⟩ 1 1 [ae s] rfl rfl (World.news_of_block (cs:= #[ae s]) (t:=3) (fr:=(0,0)) (aL D _)) (by simp[Value.oneCell']) (by decide) (by unfold maxLen;omega) (by omega) (by have:=aB.out;simp;omega) _ rfl ?_;intro a1 aG bb al ak ai aP;have O:=av (i.more N Z Q P.symm al ak ai);clear al ak ai aP))
      go_roundw
      case rel=>exact⟨f+1,_,L+1,aG,rfl,by go_num,by omega,ax,O⟩
      case measure=>simp[intOf];omega
     ·have O:Hid (ON base bp mo n g x d l (some ⟨aH,aX,none⟩) C (f+1) a L c w D):=by
        have y:=i.out;unfold ON at y ⊢;have e:gg g x d l (f+1)=gg g x d l f:=by
         rw[rF N.out Q.out,<-P.out];simp
        rw[e];exact y
      go_wp2_with fail;go_roundw
      case rel=>exact⟨f+1,_,L,c,rfl,by go_num,by omega,I,O⟩
      case measure=>simp[intOf];omega
    ·obtain rfl:f=j:=by omega
     have E:Hid (OH base bp mo n g x (d+1) a L c w wr):=by
      obtain⟨m,p,_,_,aJ,aK⟩:=i;rw[aq.out]at m p;exact⟨m,p,aJ,aK⟩
     have ar:Hid (d+1<=99):=by
      have:=(jt u x d).le;have:=(bj.1 H).1;unfold Hid;omega
     go_wp2_with fail;go_roundw
     case rel=>exact⟨d+1,a,L,c,rfl,by go_num,ar,I,E⟩
     case measure=>simp[intOf];omega
  ·have E:Hid (dz g x d=uy g x):=Jx u (by rw[h.out.1];omega);have a4:¬(d:Int)<(L:Int):=by omega
   go_wp2_with fail
   go_ret
   obtain⟨m,p,ag,aI⟩:=h;rw[bI (by omega),E.out]at ag;rw[E.out]at p;exact⟨_,rfl,p,ag,aI⟩
theorem BB(bp:BL)(x:Int)(w:ah)(R:bF)(c:Hid (au 181 #[.pointer (some ⟨bp.b,bp.o,none⟩),ae x] w λe w'=>∃v,e=aw v/\Hid (R w'))):au 158 #[.pointer (some ⟨bp.b,bp.o,none⟩),ae x,.bool true] w λe w'=>e=aw (af none 0 0)/\R w':=by
 go_enter func158,ntmps158;go_wp2_with fail;refine c.mono ?_;rintro e d ⟨v,rfl,a⟩;go_wp2_with fail
 go_ret
 exact⟨rfl,a⟩
def tj(g:bE->Bool)(x:Int)(a:Bool):List Int:=if a then []else uy g x
theorem Kd(f:fe base bp mo n g w)(h:Bn g)(i:dp x)(d:Bool):au 158 #[.pointer (some ⟨bp.b,bp.o,none⟩),ae x,.bool d] w λe w'=>∃v,e=aw v/\Hid (iT w.heap.size v (tj g x d) w'/\fe base bp mo n (wo g (x::tj g x d)) w'/\bH (λb=>mo=some b) w w'):=by
 cases d
 ·rw[show tj g x false=uy g x from if_neg (by decide)];refine G9 base bp mo n g x w h (λb m=>(f.lt b m).2) ?_;refine(tb f h i).mono ?_;rintro e w' ⟨v,rfl,a⟩;obtain⟨j,c,e,_⟩:=a.out.1.row;subst e;exact⟨j,_,c,rfl,rfl,a.1,a.2.1,a.2.2⟩
 ·refine(BB bp x w (λw'=>fe base bp mo n (wo g [x]) w'/\bH (λb=>mo=some b) w w') ?_).mono ?_
  ·refine(tb f h i).mono ?_;rintro e w' ⟨v,rfl,a⟩;exact⟨v,rfl,a.2⟩
  ·rw[show tj g x true=[]from if_pos rfl];rintro e w' ⟨rfl,k,l⟩;exact⟨_,rfl,iT.nil _ _,k,l⟩
def Ap:aq:=⟨#[115,112,97,119,110]⟩
def Ov:aq:=⟨#[101,110,100]⟩
def nX:aq:=⟨#[116,97,107,101]⟩
def KL:aq:=⟨#[115,101,110,100]⟩
def oX:aq:=⟨#[108,111,115,116]⟩
def tT:Tc:=((0,0,⟨#[]⟩),(none,0),[])
structure Sy where
 last:Int
 ps:List (Int×aq×Tc×List Tc)
 ways:bE->List Tc
 bonds:bE->Bool
 evs:List (aq×Int×Int×Tc)
def Sy.get(s:Sy)(k:Int):Option (aq×Tc×List Tc):=(s.ps.find? λp=>p.1==k).map (·.2)
def Sy.put(s:Sy)(k:Int)(v:aq×Tc×List Tc):Sy:={s with ps:=s.ps.map λp=>if p.1=k then (k,v)else p}
def Sy.tell(s:Sy)(wt:aq)(a b:Int)(t:Tc):Sy:={s with evs:=s.evs++ [(wt,a,b,t)]}
def Sy.add(s:Sy)(a:Int)(nm:aq)(cs:Tc):Sy:=Sy.tell {s with last:=s.last+1,ps:=s.ps++ [(s.last+1,nm,cs,[])]} Ap a (s.last+1) cs
def Sy.drop(s:Sy)(x how:Int):Sy:=Sy.tell {s with ps:=s.ps.eraseP λp=>p.1==x} Ov x how tT
def Sy.fin(s:Sy)(x how:Int):Sy:=(tj s.bonds x (how==1)).foldl (λs y=>s.drop y 4) {s.drop x how with bonds:=wo s.bonds (x::tj s.bonds x (how==1))}
def Sy.deliver(s:Sy)(room a b:Int)(t:Tc):Sy:=match s.get b with
 | none=>s
 | some (nm,cs,cms)=>if nW 13 t room cs cms=2 then s.tell oX a b t else if nW 13 t room cs cms=6 then s.fin b 3 else if nW 13 t room cs cms=0 then s.put b (nm,cs,cms++ [t])else s
def Sy.send(s:Sy)(a b:Int)(t:Tc):Sy:=if oI 12 a b t (s.ways (a,b)).length=0 then Sy.tell {s with ways:=iz s.ways (a,b) (s.ways (a,b)++ [t])} KL a b t else s.tell oX a b t
def Sy.link(s:Sy)(a b:Int):Sy:=if (s.get b).isSome then {s with bonds:=if wE a b=0 then iz s.bonds (jl a b) true else s.bonds}else s
def Sy.may(s:Sy)(n:Nat):Bool:=decide ((s.ps.length:Int)+n<=12) && decide (s.last+n<=90)
section
variable (n:Nat) (prog:List (Bh (n+1))) (room:Int)
def lX(nm:aq):Bool:=(gG (n+1) nm prog).isSome
def Sy.made(s:Sy)(l:List (Int×aq×Tc)):Bool:=s.may l.length && l.all λx=>lX n prog x.2.1 && fx 13 x.2.2 room x.2.1==0
def Sy.follow(s:Sy)(a:Int)(c:Tk):Sy:=
 let s:=c.spawns.foldl (λs b=>s.add a b.2.1 b.2.2) s
 let s:=c.sends.foldl (λs b=>s.send a b.1 b.2) s
 let s:=c.links.foldl (λs b=>s.link a b) s
 if c.fate=1 then s.fin a 1 else s
def Sy.run(s:Sy)(a:Int):Sy×Int:=match s.get a with
 | none=>(s,4)
 | some (nm,cs,cms)=>if rB n room prog nm a (s.last+1) cs cms=0 then match ov room prog nm a (s.last+1) cs cms with
     | none=>(s,0)
     | some b=>
      let s:=(s.put a (nm,b.state,b.mail)).tell nX a 0 b.message
      (if b.fate=2\/b.fate=3 then s.fin a b.fate else if s.made n prog room b.spawns=false then s.fin a 2 else s.follow a b,0)
  else (s,rB n room prog nm a (s.last+1) cs cms)
def Sy.arrive(s:Sy)(a b:Int):Sy×Int:=match s.ways (a,b)with
 | []=>(s,4)
 | t::l=>
  let s:={s with ways:=iz s.ways (a,b) l}
  (if (s.get b).isSome then s.deliver room a b t else s.tell oX a b t,0)
def Sy.inject(s:Sy)(a:Int)(k:Nat)(x:Tm k):Sy×Int:=if (s.get a).isSome=false then (s,4)else if bL k x≠0 then (s,bL k x)else if aY k x=false then (s,5)else (s.deliver room 0 a (cn k x),0)
def Sy.do(s:Sy)(c a b:Int)(k:Nat)(x:Tm k):Sy×Int:=if c=1 then s.run n prog room a else if c=2 then s.arrive room a b else if c=3 then s.inject room a k x else (s,1)
def Sy.start(s:Sy)(nm:aq)(k:Nat)(x:Tm k):Sy×Int:=if s.may 1=false then (s,2)else if lX n prog nm=false then (s,4)else if fx k x room nm≠0 then (s,fx k x room nm)else (s.add 0 nm (cn k x),0)
end
def Sy.more(s a:Sy):Prop:=∃l,a.evs=s.evs++l
theorem Sy.more.refl(s:Sy):s.more s:=⟨[],by simp⟩
variable{s:Sy}
theorem Sy.more.trans{t b:Sy}(a:s.more t)(k:t.more b):s.more b:=by
 obtain⟨l,a⟩:=a;obtain⟨c,k⟩:=k;exact⟨l++c,by rw[k,a,lB]⟩
theorem np{a:Type}(f:Sy->a->Sy)(b:∀(s:Sy)(x:a),s.more (f s x)):(l:List a)->(s:Sy)->s.more (l.foldl f s)
 | [],s=>Sy.more.refl s
 | x::l,s=>(b s x).trans (np f b l (f s x))
theorem yB(s:Sy)(wt:aq)(a b:Int)(t:Tc):s.more (s.tell wt a b t):=⟨_,rfl⟩
theorem sw(s:Sy)(x how:Int):s.more (s.fin x how):=by
 have a:s.more {s.drop x how with bonds:=wo s.bonds (x::tj s.bonds x (how==1))}:=⟨_,rfl⟩;exact a.trans (np _ (λs b=>⟨_,rfl⟩) _ _)
theorem sr(s:Sy)(room a b:Int)(t:Tc):s.more (s.deliver room a b t):=by
 unfold Sy.deliver;split
 ·exact Sy.more.refl s
 ·split
  ·exact yB _ _ _ _ _
  ·split
   ·exact sw _ _ _
   ·split
    ·exact⟨[],by simp[Sy.put]⟩
    ·exact Sy.more.refl s
theorem II(s:Sy)(a b:Int)(t:Tc):s.more (s.send a b t):=by
 unfold Sy.send;split
 ·exact⟨_,rfl⟩
 ·exact⟨_,rfl⟩
theorem IH(s:Sy)(a b:Int):s.more (s.link a b):=by
 unfold Sy.link;split
 ·exact⟨[],by simp⟩
 ·exact Sy.more.refl s
theorem CI(s:Sy)(a:Int)(c:Tk):s.more (s.follow a c):=by
 have e:=np (λ(s:Sy)(b:Int×aq×Tc)=>s.add a b.2.1 b.2.2) (λs b=>⟨_,rfl⟩) c.spawns s;have f:=e.trans (np (λ(s:Sy)(b:Int×Tc)=>s.send a b.1 b.2) (λs b=>II s a b.1 b.2) c.sends _);have d:=f.trans (np (λ(s:Sy)(b:Int)=>s.link a b) (λs b=>IH s a b) c.links _);unfold Sy.follow;simp only;split
 ·exact d.trans (sw _ _ _)
 ·exact d
theorem NB(n:Nat)(prog:List (Bh (n+1)))(room:Int)(s:Sy)(f a b:Int)(k:Nat)(x:Tm k):s.more (s.do n prog room f a b k x).1:=by
 unfold Sy.do;split
 ·unfold Sy.run;split
  ·exact Sy.more.refl s
  ·split
   ·split
    ·exact Sy.more.refl s
    ·have c:∀d (e:aq×Tc×List Tc) t,s.more ((s.put a e).tell d a 0 t):=λd e t=>⟨_,rfl⟩;simp only;split
     ·exact(c _ _ _).trans (sw _ _ _)
     ·split
      ·exact(c _ _ _).trans (sw _ _ _)
      ·exact(c _ _ _).trans (CI _ _ _)
   ·exact Sy.more.refl s
 ·split
  ·unfold Sy.arrive;split
   ·exact Sy.more.refl s
   ·rename_i t l _;have c:s.more {s with ways:=iz s.ways (a,b) l}:=⟨[],by simp⟩;simp only;split
    ·exact c.trans (sr _ _ _ _ _)
    ·exact c.trans (yB _ _ _ _ _)
  ·split
   ·unfold Sy.inject;split
    ·exact Sy.more.refl s
    ·split
     ·exact Sy.more.refl s
     ·split
      ·exact Sy.more.refl s
      ·exact sr _ _ _ _ _
   ·exact Sy.more.refl s
theorem gz{P:Sy->Prop}{a:Type}(f:Sy->a->Sy):(l:List a)->(∀s,∀x∈l,P s->P (f s x))->{s:Sy}->P s->P (l.foldl f s)
 | [],_,_,h=>h
 | x::l,hf,s,h=>gz f l (λs y b=>hf s y (cd _ b)) (hf s x (by simp) h)
theorem Pb{k:Int}{v:aq×Tc×List Tc}(a:s.get k=some v):∃q∈s.ps,q.2=v:=by
 unfold Sy.get at a;obtain⟨q,b,rfl⟩:=cJ.1 a;exact⟨q,List.mem_of_find?_eq_some b,rfl⟩
def pC(s:Sy):Prop:=∀q∈s.ps,q.2.1.size<=8
theorem pC.get(b:pC s){k:Int}{r:Tc×List Tc}(c:s.get k=some (nm,r)):nm.size<=8:=by
 obtain⟨e,d,a⟩:=Pb c;have:=b e d;rw[a]at this;exact this
theorem pC.add{s:Sy}(c:pC s)(a:Int){nm:aq}(d:nm.size<=8)(cs:Tc):pC (s.add a nm cs):=λq e=>by
 rcases dv.1 e with b|b
 ·exact c q b
 ·rw[dP.1 b];exact d
theorem pC.drop{s:Sy}(a:pC s)(x how:Int):pC (s.drop x how):=λq b=>a q (List.mem_of_mem_eraseP b)
theorem pC.fin{s:Sy}(a:pC s)(x how:Int):pC (s.fin x how):=gz (λ(s:Sy)(y:Int)=>s.drop y 4) _ (λ_ y _ k=>k.drop y 4) (a.drop x how:)
theorem pC.put{s:Sy}(a:pC s)(k:Int){v:aq×Tc×List Tc}(d:v.1.size<=8):pC (s.put k v):=λq b=>by
 obtain⟨r,c,rfl⟩:=cg.1 b;split
 ·exact d
 ·exact a r c
theorem pC.deliver{s:Sy}(c:pC s)(room a b:Int)(t:Tc):pC (s.deliver room a b t):=by
 unfold Sy.deliver;split
 ·exact c
 ·split
  ·exact c
  ·split
   ·exact c.fin _ _
   ·split
    ·exact c.put _ (c.get ‹_›)
    ·exact c
theorem yF{k:Nat}{x:Tm k}(a:fx k x room nm=0):nm.size<=8:=by
 unfold fx at a;split at a
 ·cases a
 ·rename_i b;simp only[ek,qX,Bool.not_eq_false,aT,cV]at b;omega
theorem pC.follow{s:Sy}(d:pC s)(a:Int)(b:Tk)(e:∀x∈b.spawns,x.2.1.size<=8):pC (s.follow a b):=by
 have c:=gz (P:=pC) (λ(s:Sy)(x:Int)=>s.link a x) b.links (λs x _ k=>by unfold Sy.link;split<;>exact k) (gz (P:=pC) (λ(s:Sy)(x:Int×Tc)=>s.send a x.1 x.2) b.sends (λs x _ k=>by unfold Sy.send;split<;>exact k) (gz (P:=pC) (λ(s:Sy)(x:Int×aq×Tc)=>s.add a x.2.1 x.2.2) b.spawns (λ_ x f k=>k.add a (e x f) x.2.2) d));unfold Sy.follow;simp only;split
 ·exact c.fin a 1
 ·exact c
theorem pC.do{n:Nat}{prog:List (Bh (n+1))}{room:Int}{s:Sy}(c:pC s)(j a b:Int)(k:Nat)(x:Tm k):pC (s.do n prog room j a b k x).1:=by
 unfold Sy.do;split
 ·unfold Sy.run;split
  ·exact c
  ·rename_i g o m h;split
   ·split
    ·exact c
    ·rename_i d _;have e:pC ((s.put a (g,d.state,d.mail)).tell nX a 0 d.message):=c.put a (v:=(g,d.state,d.mail)) (c.get h);simp only;split
     ·exact e.fin _ _
     ·split
      ·exact e.fin _ _
      ·rename_i f;simp only[Sy.made,aT,Bool.not_eq_false,cZ,cU]at f;exact e.follow a d λx i=>yF (f.2 x i).2
   ·exact c
 ·split
  ·unfold Sy.arrive;split
   ·exact c
   ·rename_i l _;simp only;split
    ·exact pC.deliver (s:={s with ways:=iz s.ways (a,b) l}) c _ _ _ _
    ·exact c
  ·split
   ·unfold Sy.inject;split
    ·exact c
    ·split
     ·exact c
     ·split
      ·exact c
      ·exact c.deliver _ _ _ _
   ·exact c
theorem pC.start{n:Nat}{prog:List (Bh (n+1))}{room:Int}{s:Sy}(a:pC s)(nm:aq)(k:Nat)(x:Tm k):pC (s.start n prog room nm k x).1:=by
 unfold Sy.start;split
 ·exact a
 ·split
  ·exact a
  ·split
   ·exact a
   ·exact a.add 0 (yF (Decidable.not_not.1 ‹_›)) _
def Bk(K:Nat)(b:List (Int×Tc))(c:List (Int×aq×Tc))(a:List Int):Prop:=(b.length<=K/\c.length<=K/\a.length<=K)/\(∀x∈b,dp x.1)/\∀x∈a,dp x
theorem GF{b:List Tc}{x:Tm n}(a:oh b self n x=some m):dp m:=by
 unfold oh tQ at a;cases f:vl 13 b self n x with
 | none=>rw[f]at a;cases a
 | some e=>
  rw[f,dU]at a;by_cases d:bL (13+n) e=0
  ·rw[if_pos d,dU]at a;by_cases c:(cn (13+n) e).1.1=3
   ·rw[if_pos c]at a;obtain rfl:=aJ a;have h:aM ⟨13,cn (13+n) e⟩:=aZ.2 (bU.1 (oV d)).1;have g:=h _ (qi);simp only[cN,c]at g;simp[qX]at g;unfold dp;omega
   ·rw[if_neg c]at a;cases a
  ·rw[if_neg d]at a;cases a
theorem O8{K:Nat}{a:Ac (n+1)}{d e:Dg}(b:r9 self a d=some e)(k:Bk K d.sends d.spawns d.links):Bk (K+1) e.sends e.spawns e.links:=by
 unfold r9 at b;obtain⟨⟨o,p,q⟩,f,g⟩:=k;split at b
 ·obtain⟨m,h,b⟩:=cv.1 b;obtain⟨t,l,rfl⟩:=cJ.1 b;refine⟨⟨by simp;omega,by simp;omega,by simp;omega⟩,λj i=>?_,g⟩;rcases dv.1 i with c|c
  ·exact f j c
  ·rw[dP.1 c];exact GF h
 ·split at b
  ·obtain⟨t,l,b⟩:=cv.1 b;split at b
   ·obtain rfl:=aJ b;exact⟨⟨by simp;omega,by simp;omega,by simp;omega⟩,f,g⟩
   ·cases b
  ·split at b
   ·obtain⟨m,h,rfl⟩:=cJ.1 b;refine⟨⟨by simp;omega,by simp;omega,by simp;omega⟩,f,λj i=>?_⟩;rcases dv.1 i with c|c
    ·exact g j c
    ·rw[dP.1 c];exact GF h
   ·obtain rfl:=aJ b;exact⟨⟨by simp;omega,by simp;omega,by simp;omega⟩,f,g⟩
theorem KG{self:Int}{n:Nat}:(l:List (Ac (n+1)))->{K:Nat}->{d b:Dg}->qT self l d=some b->Bk K d.sends d.spawns d.links->Bk (K+l.length) b.sends b.spawns b.links
 | [],K,d,b,c,hk=>by
  obtain rfl:=aJ c;exact hk
 | a::l,K,d,b,c,hk=>by
  unfold qT at c;obtain⟨e,f,c⟩:=cv.1 c;have:=KG l c (O8 f hk);rw[bv,show K+(l.length+1)=K+1+l.length by omega];exact this
theorem clsC_mem{n:Nat}{s m:Tc}:(l:List (Cl (n+1)))->{y:Cl (n+1)×List Tc}->mX s m l=some y->y.1∈l
 | [],y,h=>by simp[mX]at h
 | c::l,y,h=>by
  unfold mX at h;cases e:mm c s m with
  | none=>
   rw[e]at h;exact cd _ (clsC_mem l h)
  | some b=>
   rw[e]at h;obtain rfl:=aJ h;exact qi
theorem Gb{n:Nat}{l:List (Cl (n+1))}{s:Tc}:(ms:List Tc)->(i:Nat)->{x:Nat×Cl (n+1)×List Tc}->td l s ms i=some x->x.2.1∈l
 | [],i,x,h=>by simp[td]at h
 | m::ms,i,x,h=>by
  unfold td at h;cases e:mX s m l with
  | none=>
   rw[e]at h;exact Gb ms (i+1) h
  | some y=>
   rw[e]at h;obtain rfl:=aJ h;exact clsC_mem l e
theorem rX{n:Nat}{name:aq}:(l:List (Bh n))->{b:Bh n}->gG n name l=some b->b∈l/\b.1=name
 | [],b,h=>by simp[gG]at h
 | c::l,b,h=>by
  unfold gG at h;split at h
  ·rename_i e;obtain rfl:=aJ h;exact⟨qi,e⟩
  ·exact⟨cd _ (rX l h).1,(rX l h).2⟩
theorem EK{prog:List (Bh (n+1))}(c:lm (n+1) prog=true)(d:lX n prog nm=true):nm.size<=2048:=by
 obtain⟨b,g⟩:=gn.1 d;obtain⟨e,f⟩:=rX prog g;unfold lm at c;simp only[aT,cZ]at c;have a:=c.2 b e;unfold xY at a;simp only[aT]at a;rw[<-f];exact yD a.1.1.1
theorem FF{l:List (Bh (n+1))}(j:lm (n+1) l=true){name:aq}{next:Int}{s:Tc}{ms:List Tc}{f:Tk}(e:ov room l name self next s ms=some f):Bk 8 f.sends f.spawns f.links:=by
 unfold ov at e;obtain⟨c,p,e⟩:=cv.1 e;obtain⟨y,u,rfl⟩:=cJ.1 e;have a:=Gb ms 0 p;have r:c.2.1.2.2.length<=8:=by
  unfold gL at a;cases g:gG (n+1) name l with
  | none=>rw[g]at a;simp at a
  | some b=>
   rw[g]at a;have a:c.2.1∈b.2.2:=a;unfold lm at j;simp only[aT,cZ]at j;have h:=j.2 b (rX l g).1;unfold xY at h;simp only[aT,cZ]at h;have k:=h.2 _ a;unfold vD at k;simp only[aT,cV]at k;omega
 have i:Bk 8 [] [] []:=⟨⟨by simp,by simp,by simp⟩,by simp,by simp⟩;unfold fI;cases hd:qT self c.2.1.2.2 ⟨c.2.2,next,[],[],[],false⟩with
 | none=>exact i
 | some d=>
  have o:Bk 8 d.sends d.spawns d.links:=by
   obtain⟨⟨v,w,x⟩,q⟩:=KG _ (K:=0) hd ⟨⟨by simp,by simp,by simp⟩,by simp,by simp⟩;exact⟨⟨by omega,by omega,by omega⟩,q⟩
  cases m:tQ d.b self (n+1) c.2.1.1.2.2 with
  | none=>simp only[m];exact i
  | some t=>
   simp only[m];split
   ·exact o
   ·exact i
theorem tP(g:bE->Bool)(x:Int):∀i,∀y∈dz g x i,1<=y/\y<=99
 | 0,y,hy=>(gW.1 hy).1
 | i+1,y,hy=>by
  unfold dz at hy;split at hy
  ·rcases dv.1 hy with a|a
   ·exact tP g x i y a
   ·exact(gW.1 (o8.1 a).1).1
  ·exact tP g x i y hy
theorem ei(a: -1000<=y/\y<=1000):dp y:=by
 unfold dp;omega
def nR(s:Sy):Prop:=0<=s.last/\∀e∈s.evs,e.1.size<=8/\dp e.2.1/\(dp e.2.2.1\/(0<=e.2.2.1/\e.2.2.1<=s.last))
theorem nR.tell{s:Sy}(d:nR s){nm:aq}{a b:Int}(i:nm.size<=8)(f:dp a)(g:dp b)(t:Tc):nR (s.tell nm a b t):=⟨d.1,λe h=>by
 rcases dv.1 h with c|c
 ·exact d.2 e c
 ·rw[dP.1 c]
  exact⟨i,f,ak g⟩⟩
theorem nR.add{s:Sy}(c:nR s){a:Int}(e:dp a)(nm:aq)(cs:Tc):nR (s.add a nm cs):=by
 have j:=c.1;refine⟨show 0<=s.last+1 by omega,λd f=>?_⟩;rcases dv.1 f with b|b
 ·obtain⟨g,h,i⟩:=c.2 d b;exact⟨g,h,i.imp id λb=>⟨b.1,show _<=s.last+1 by omega⟩⟩
 ·rw[dP.1 b];exact⟨show Ap.size<=8 by decide,e,am ⟨show 0<=s.last+1 by omega,km _⟩⟩
theorem nR.drop{s:Sy}(a:nR s){x how:Int}(c:dp x)(b:dp how):nR (s.drop x how):=nR.tell (s:={s with ps:=s.ps.eraseP λp=>p.1==x}) a (by decide) c b tT
theorem nR.fin{s:Sy}(c:nR s){x how:Int}(e:dp x)(d:dp how):nR (s.fin x how):=
 gz (λ(s:Sy)(b:Int)=>s.drop b 4) _ (λ_ b a k=>k.drop (by
  unfold tj at a;split at a
  ·cases a
  ·have:=tP _ _ _ b a
   exact ei (by omega)) (ei (by decide))) (c.drop e d:)
theorem nR.deliver{s:Sy}(c:nR s)(room:Int){a b:Int}(e:dp a)(d:dp b)(t:Tc):nR (s.deliver room a b t):=by
 unfold Sy.deliver;split
 ·exact c
 ·split
  ·exact c.tell (by decide) e d t
  ·split
   ·exact c.fin d (ei (by decide))
   ·split
    ·exact c
    ·exact c
theorem nR.follow{s:Sy}(g:nR s){a:Int}(c:dp a)(b:Tk)(e:∀x∈b.sends,dp x.1):nR (s.follow a b):=by
 have d:=gz (P:=nR) (λ(s:Sy)(x:Int)=>s.link a x) b.links (λs x _ k=>by unfold Sy.link;split<;>exact k) (gz (P:=nR) (λ(s:Sy)(x:Int×Tc)=>s.send a x.1 x.2) b.sends (λs x f k=>by
  unfold Sy.send;split
  ·exact nR.tell (s:={s with ways:=iz s.ways (a,x.1) (s.ways (a,x.1)++ [x.2])}) k (by decide) c (e x f) x.2
  ·exact k.tell (by decide) c (e x f) x.2) (gz (P:=nR) (λ(s:Sy)(x:Int×aq×Tc)=>s.add a x.2.1 x.2.2) b.spawns (λ_ x _ k=>k.add c x.2.1 x.2.2) g))
 unfold Sy.follow;simp only;split
 ·exact d.fin c (ei (by decide))
 ·exact d
theorem nR.do{n:Nat}{prog:List (Bh (n+1))}(i:lm (n+1) prog=true){room:Int}{s:Sy}(c:nR s)(m:Int){a b:Int}(d:dp a)(g:dp b)(k:Nat)(x:Tm k):nR (s.do n prog room m a b k x).1:=by
 unfold Sy.do;split
 ·unfold Sy.run;split
  ·exact c
  ·rename_i h p o r;split
   ·split
    ·exact c
    ·rename_i e j;have f:nR ((s.put a (h,e.state,e.mail)).tell nX a 0 e.message):=nR.tell (s:=s.put a (h,e.state,e.mail)) c (by decide) d (ei (by decide)) e.message;simp only;split
     ·rename_i q;exact f.fin d (ei (by omega))
     ·split
      ·exact f.fin d (ei (by decide))
      ·exact f.follow d e (FF i j).2.1
   ·exact c
 ·split
  ·unfold Sy.arrive;split
   ·exact c
   ·rename_i t l _;simp only;split
    ·exact nR.deliver (s:={s with ways:=iz s.ways (a,b) l}) c room d g t
    ·exact nR.tell (s:={s with ways:=iz s.ways (a,b) l}) c (by decide) d g t
  ·split
   ·unfold Sy.inject;split
    ·exact c
    ·split
     ·exact c
     ·split
      ·exact c
      ·exact c.deliver room (ei (by decide)) d _
   ·exact c
theorem nR.start{n:Nat}{prog:List (Bh (n+1))}{room:Int}{s:Sy}(a:nR s)(nm:aq)(k:Nat)(x:Tm k):nR (s.start n prog room nm k x).1:=by
 unfold Sy.start;split
 ·exact a
 ·split
  ·exact a
  ·split
   ·exact a
   ·exact a.add (ei (by decide)) nm _
theorem qP(b:ap w w')(a:w.heap[q]?=some o):w'.heap[q]?=some o:=(b.block q (aS.1 a).1).trans a
def vx(v0 v1 v2 v3 a b c:az):Obj:=.cells #[v0,v1,v2,v3,a,b,c] 56
def QL:Obj:=vx (ag ⟨#[]⟩) (ae 0) (ae 0) (ae 0) (ae 0) (ag ⟨#[]⟩) (af none 0 0)
def Pn(w:ah)(q:Nat)(v0 v1 v2 v3 a b c:az):ah:=((((((w.setCell ⟨q,0,none⟩ v0).setCell ⟨q,1,none⟩ v1).setCell ⟨q,2,none⟩ v2).setCell ⟨q,3,none⟩ v3).setCell ⟨q,4,none⟩ a).setCell ⟨q,5,none⟩ b).setCell ⟨q,6,none⟩ c
theorem CX(w:ah)(q:Nat)(v0 v1 v2 v3 e f g:az):bH (λb=>b=q) w (Pn w q v0 v1 v2 v3 e f g):=by
 have t:∀{a b c:ah},bH (λb=>b=q) a b->bH (λb=>b=q) b c->bH (λb=>b=q) a c:=λd k=>d.trans k λ_ _ h=>h;exact t (t (t (t (t (t (bO _ _ _ _) (bO _ _ _ _)) (bO _ _ _ _)) (bO _ _ _ _)) (bO _ _ _ _)) (bO _ _ _ _)) (bO _ _ _ _)
theorem jm(a:Below B w W)(h:B<=q)(c:B<=w.heap.size):Below B w (Pn W q v0 v1 v2 v3 d e f):=
 a.trans ((CX W q v0 v1 v2 v3 d e f).below (aG c a.size) λb g i=>by omega)
theorem fl(a:W.heap[q]?=some (vx v0 v1 v2 v3 d e f)):(ai W q 0 v0/\ai W q 1 v1/\ai W q 2 v2/\ai W q 3 v3/\ai W q 4 d/\ai W q 5 e/\ai W q 6 f)/\∀k,W.frozen? ⟨q,k,none⟩=false:=
 ⟨⟨aj a 0,aj a 1,aj a 2,aj a 3,aj a 4,aj a 5,aj a 6⟩,λk=>by simp[World.frozen?,a,vx]⟩
theorem Kj(b:W.heap[q]?=some (vx v0 v1 v2 v3 d e f))(a:az):(W.setCell ⟨q,1,none⟩ a).heap[q]?=some (vx v0 a v2 v3 d e f)/\(W.setCell ⟨q,2,none⟩ a).heap[q]?=some (vx v0 v1 a v3 d e f):=by
 constructor<;>simp[World.setCell,bS,b,vx]
theorem py(a:0<=m/\m<=1000):IntKind.i64.wrap m=m:=by
 rw[IntKind.wrap];simp[IntKind.bits,IntKind.signed];omega
def jX(a:Nat)(b:Nat->Option Int)(i j:Nat):Int:=if i<j/\i<a then (b i).getD 0 else 0
def JY(wd:aq)(a b:Nat)(d:Bool)(L:Nat)(ps:Nat->aq)(c:Nat->Option Int):Prop:=d=true/\(L=1+a+b/\ps 0=wd)/\∀i,i<a->(c i).isSome=true
def Q2(wd:aq)(c d:Nat)(g:Bool)(L:Nat)(ps:Nat->aq)(e:Nat->Option Int)(l:Int->Int->Int->aq->ay->Nat->Nat->bF)(f:Int)(m:aq)(a b h i:Int)(j:aq)(xa:ay)(k xc:Nat)(w':ah):Prop:=
 (f=3/\¬JY wd c d g L ps e)\/(JY wd c d g L ps e/\(m=wd/\a=jX c e 0 2/\b=jX c e 1 2)/\((d=0/\f=0/\h=0/\i=0/\j=⟨#[]⟩/\xa=none/\k=0/\xc=0)\/(d=1/\l f h i j xa k xc w')))
def QX(wd:aq)(c L:Nat)(ps:Nat->aq)(b:Nat->Option Int)(w:ah)(r q g j:Nat)(W:ah):Prop:=
 ap w W/\W.heap[r]?=some QL/\W.heap[q]?=some (vx (ag wd) (ae (jX c b 0 j)) (ae (jX c b 1 j)) (ae 0) (ae 0) (ag ⟨#[]⟩) (af none 0 0))/\(∀a,a<L->W.cell? ⟨g,a,none⟩=some (ag (ps a)))/\∀a,a<j->(b a).isSome=true
theorem vQ(aF wd:aq)(f l:Nat)(aa:Bool)(L:Nat)(ps:Nat->aq)(m:Nat->Option Int)(w:ah)(a6:Int->Int->Int->aq->ay->Nat->Nat->bF)(bD:f<=2)(bG:l<=1)(aU:Hid (∀W,ap w W->au 31 #[ag aF,ag ⟨#[32]⟩] W λe w'=>∃bf b,e=aw (ax #[ag wd,ag bf,.bool b])/\ap W w'))(aX:Hid (∀W,au 32 #[ag wd] W λe w'=>e=aw (ax #[ae f,ae l,.bool aa])/\w'=W))(ab:Hid (aa=true->∀W,ap w W->au 33 #[ag aF,ag ⟨#[32]⟩,ae (1+f+l)] W λe w'=>∃g c,e=aw (af (some ⟨g,0,none⟩) L c)/\L<=c/\Hid (ap W w'/\g<w'.heap.size/\0<L/\∀j,j<L->ai w' g j (ag (ps j)))))(y:Hid (∀i W,i<f->ap w W->au 34 #[ag (ps (1+i))] W λe w'=>e=aw (Qp (m i))/\ap W w'))(z:Hid (l=1->∀W,ap w W->au 35 #[ag (ps (1+f))] W λe w'=>∃y0 y1 y2 ya yl yc pos s,e=aw (ax #[aB y0 y1 y2 ya yl yc,ae pos,ae s])/\Hid (ap W w'/\∀a5,bH (λq=>q<W.heap.size) w' a5->a6 s y0 y1 y2 ya yl yc a5))):au 24 #[ag aF] w λe w'=>∃d a b G H I xa bg xc s,e=aw (ax #[.agg #[ag d,ae a,ae b,ae G,ae H,ag I,af xa bg xc],ae s])/\Hid (ap w w'/\Q2 wd f l aa L ps m a6 s d a b G H I xa bg xc w'):=by
 go_enter func24,ntmps24;go_upto_region 1 with fail;generalize ao:w.alloc _=aG;have U:Hid (ap w aG):=by rw[<-ao];exact aW _ _
 have a2:Hid (aG.heap[w.heap.size]?=some QL):=by
  rw[<-ao];exact aL _ _
 clear ao;go_wp2_with fail;refine(aU.out aG U).mono ?_;rintro e bw ⟨bf,b,rfl,an⟩;have M:=av (U.trans (an.mono U.size));have O:=av (qP an a2);clear an aU U a2;go_wp2_with fail;refine(aX.out bw).mono ?_;rintro e bL ⟨rfl,rfl⟩;clear aX;have r:Hid (w.heap.size=w.heap.size):=rfl;generalize bc:w.heap.size=n at O;replace r:=av bc;clear bc;cases aa
 ·obtain⟨⟨d0,d1,d2,d3,d4,d5,d6⟩,E⟩:=fl O.out;clear ab y z O;go_wp2_with fail;exact aE (v:=ax #[.agg #[ag ⟨#[]⟩,ae 0,ae 0,ae 0,ae 0,ag ⟨#[]⟩,af none 0 0],ae 3]) (by simp[results,results24,go_sem,d0,d1,d2,d3,d4,d5,d6]) rfl ⟨⟨#[]⟩,0,0,0,0,⟨#[]⟩,none,0,0,3,rfl,jm M (cT r) (aA _),ak ⟨rfl,λd=>by cases d.1⟩⟩
 have a1:=av (ab rfl _ M);have bx:IntKind.i64.wrap (1+(f:Int))=1+f:=py (by omega);have bz:IntKind.i64.wrap (1+(f:Int)+l)=1+f+l:=py (by omega);clear ab;go_wp2_with fail;refine a1.mono ?_;rintro e u ⟨g,c,rfl,bA,J⟩;have N:=av (M.trans (J.1.mono M.size));have A:=av (qP J.1 O);have x:=av J.2;have a8:=J.2.2.1;clear a1 M O J;have X:Hid (∀W,ap u W->W.heap[n]?=some QL):=λW br=>qP br A;by_cases a7:L=1+f+l;rotate_left
 ·obtain⟨⟨d0,d1,d2,d3,d4,d5,d6⟩,E⟩:=fl A.out;have bd:((L:Int) !=1+f+l)=true:=by rw[gV];omega
  clear y z A X x;go_wp2_with fail;exact aE (v:=ax #[.agg #[ag ⟨#[]⟩,ae 0,ae 0,ae 0,ae 0,ag ⟨#[]⟩,af none 0 0],ae 3]) (by simp[results,results24,go_sem,d0,d1,d2,d3,d4,d5,d6]) rfl ⟨⟨#[]⟩,0,0,0,0,⟨#[]⟩,none,0,0,3,rfl,jm N (cT r) (aA _),ak ⟨rfl,λd=>a7 d.2.1.1⟩⟩
 subst a7;have bd:(((1+f+l:Nat):Int) !=1+f+l)=false:=by rw[bne_eq_false_iff_eq];omega
 have bp:ai u g 0 (ag (ps 0)):=x.2.2 0 a8;have bv:(0:Int)<((1+f+l:Nat):Int):=by omega
 by_cases D:ps 0=wd;rotate_left
 ·obtain⟨⟨d0,d1,d2,d3,d4,d5,d6⟩,E⟩:=fl A.out;have be:((ps 0).toList==wd.toList)=false:=dM.2 λd=>D (by rw[kJ d,<-kJ (rfl:wd.toList=wd.toList)]);have bj:=av D;clear y z A X x;go_wp2_with fail;exact aE (v:=ax #[.agg #[ag ⟨#[]⟩,ae 0,ae 0,ae 0,ae 0,ag ⟨#[]⟩,af none 0 0],ae 3]) (by simp[results,results24,go_sem,d0,d1,d2,d3,d4,d5,d6]) rfl ⟨⟨#[]⟩,0,0,0,0,⟨#[]⟩,none,0,0,3,rfl,jm N (cT r) (aA _),ak ⟨rfl,λd=>bj d.2.1.2⟩⟩
 have be:((ps 0).toList==wd.toList)=true:=by rw[D];simp
 go_upto_region 9 with fail;generalize ar:World.alloc _ _=aH;have V:Hid (ap u aH):=by
  rw[<-ar];exact aW _ _
 have a3:Hid (aH.heap[u.heap.size]?=some (vx (ag wd) (ae 0) (ae 0) (ae 0) (ae 0) (ag ⟨#[]⟩) (af none 0 0))):=by
  rw[<-ar];exact aL _ _
 have a4:=av (X.out _ V);have T:Hid (n<u.heap.size/\g<u.heap.size):=⟨(aS.1 A.out).1,x.1⟩;have S:Hid (QX wd f (1+f+l) ps m w n u.heap.size g 0 aH):=⟨N.trans (V.mono N.size),a4,by simpa [jX]using a3.out,λj a9=>(V.cell (p:=⟨g,j,none⟩) x.1).trans (x.2.2 j a9),λi t=>absurd t (Nat.not_lt_zero i)⟩;clear ar be X A bd bv bp a3 a4 V x a8 N;generalize u.heap.size=q at*;go_wp2_with fail;go_loopw [9,12,53] (λo _ i wr=>∃(j:Nat),j<=f/\i=ae j/\Hid (QX wd f (1+f+l) ps m w n q g j wr)) (λ_ _ i _=>f-(intOf i).toNat)
 case atStart=>exact⟨0,aN _,rfl,S.out⟩
 case round=>
 clear S;obtain⟨j,a9,rfl,h⟩:=hrel;by_cases Z:j<f
 ·have bI:(0:Int)<=(j:Int):=by omega
  have bJ:(j:Int)<(f:Int):=by omega
  have bK:(j:Int)<2:=by omega
  have az:IntKind.i64.wrap (1+(j:Int))=1+j:=py (by omega);have aC:(0:Int)<=1+(j:Int):=by omega
  have aD:(1+(j:Int))<((1+f+l:Nat):Int):=by omega
  have al:ai wr g (1+j) (ag (ps (1+j))):=h.2.2.2.1 (1+j) (by omega);have aZ:=av (y.out j _ Z h.1);clear y z;go_wp2_with fail;refine aZ.mono ?_;rintro e F ⟨rfl,P⟩;have aQ:=av (h.1.trans (P.mono h.1.size));have aj:=av (qP P h.2.1);have ad:=av (qP P h.2.2.1);have aY:Hid (∀i,i<1+f+l->ai F g i (ag (ps i))):=λi t=>(P.cell (p:=⟨g,i,none⟩) (Nat.lt_trans T.out.2 (aS.1 h.2.2.1).1)).trans (h.2.2.2.1 i t);have bh:=av h.2.2.2.2;clear aZ P h al az aC aD;obtain⟨⟨d0,d1,d2,d3,d4,d5,d6⟩,E⟩:=fl aj.out;obtain⟨⟨G,H,I,aJ,aK,aM,aO⟩,aP⟩:=fl ad.out;cases hv:m j with
  | none=>
   unfold Qp;have bb:=T.out.1;have Y:=r.out;have bt:q≠n:=by omega
   have bu:n≠q:=by omega
   have bl:=av hv;clear hv;rcases(show j=0\/j=1 by omega)with rfl|rfl
   all_goals
    go_wp2_with fail;exact aE (v:=ax #[.agg #[ag ⟨#[]⟩,ae 0,ae 0,ae 0,ae 0,ag ⟨#[]⟩,af none 0 0],ae 3]) (by simp[results,results24,go_sem,d0,d1,d2,d3,d4,d5,d6]) rfl ⟨⟨#[]⟩,0,0,0,0,⟨#[]⟩,none,0,0,3,rfl,jm (aQ.setCell (p:=⟨q,_,none⟩) (show w.heap.size<=q by omega) _) (cT Y) (aA _),ak ⟨rfl,λd=>by have:=d.2.2 _ Z;rw[bl.out]at this;cases this⟩⟩
  | some v=>
   have aV:Hid (∀i,i<j+1->(m i).isSome=true):=λi t=>by
    by_cases e:i=j
    ·rw[e,hv];rfl
    ·exact bh.out i (by omega)
   obtain⟨bb,bC⟩:=T.out;have Y:=r.out;have C:Hid (∀k R,(F.setCell ⟨q,k,none⟩ R).heap[n]?=F.heap[n]? /\(∀i,(F.setCell ⟨q,k,none⟩ R).cell? ⟨g,i,none⟩=F.cell? ⟨g,i,none⟩)/\ap w (F.setCell ⟨q,k,none⟩ R)):=λk R=>⟨eq _ _ _ _ (show n≠q by omega),λi=>World.cell?_setCell_other _ _ _ _ (λd=>by injection d;omega),aQ.setCell (p:=⟨q,k,none⟩) (show w.heap.size<=q by omega) R⟩;unfold Qp;rcases(show j=0\/j=1 by omega)with rfl|rfl
   ·go_wp2_with fail;refine⟨⟨1,by omega,rfl,(C 1 (ae v)).2.2,(C 1 (ae v)).1.trans aj,?_,λi t=>((C 1 (ae v)).2.1 i).trans (aY.out i t),aV⟩,by simp[intOf];omega⟩;have:=(Kj ad (ae v)).1;simpa [jX,hv,Z]using this
   ·go_wp2_with fail;refine⟨⟨2,by omega,rfl,(C 2 (ae v)).2.2,(C 2 (ae v)).1.trans aj,?_,λi t=>((C 2 (ae v)).2.1 i).trans (aY.out i t),aV⟩,by simp[intOf];omega⟩;have:=(Kj ad (ae v)).2;have bq:0<f:=by omega
    simpa [jX,hv,Z,bq]using this
 ·obtain rfl:j=f:=by omega
  obtain⟨⟨d0,d1,d2,d3,d4,d5,d6⟩,E⟩:=fl h.2.1;obtain⟨⟨G,H,I,aJ,aK,aM,aO⟩,aP⟩:=fl h.2.2.1;have aT:=av h.1;have bb:=T.1;have bt:q≠n:=by omega
  rcases(show l=0\/l=1 by omega)with rfl|rfl
  ·clear y z;go_wp2_with fail;have Q:∀i,jX j m i j=jX j m i 2:=λi=>by
    unfold jX;by_cases d:i<j
    ·rw[if_pos ⟨d,d⟩,if_pos ⟨by omega,d⟩]
    ·rw[if_neg λB=>d B.1,if_neg λB=>d B.2]
   exact aE (v:=ax #[.agg #[ag wd,ae (jX j m 0 j),ae (jX j m 1 j),ae 0,ae 0,ag ⟨#[]⟩,af none 0 0],ae 0]) (by simp[results,results24,go_sem,d0,d1,d2,d3,d4,d5,d6]) rfl ⟨wd,_,_,0,0,⟨#[]⟩,none,0,0,0,rfl,jm aT (cT r.out) (aA _),am ⟨⟨rfl,⟨rfl,D⟩,h.2.2.2.2⟩,⟨rfl,Q 0,Q 1⟩,ak ⟨rfl,rfl,rfl,rfl,rfl,rfl,rfl,rfl⟩⟩⟩
  ·have a0:=av (z.out rfl _ h.1);have aC:(0:Int)<=1+(j:Int):=by omega
   have aD:(1+(j:Int))<((1+j+1:Nat):Int):=by omega
   have az:IntKind.i64.wrap (1+(j:Int))=1+j:=py (by omega);have al:ai wr g (1+j) (ag (ps (1+j))):=h.2.2.2.1 (1+j) (by omega);clear y z;go_wp2_with fail;refine a0.mono ?_;rintro e aI ⟨y0,y1,y2,ya,yl,yc,pos,s,rfl,K⟩;have aR:=av (h.1.trans (K.1.mono h.1.size));have bn:=av (qP K.1 h.2.1);have bm:=av (qP K.1 h.2.2.1);have bi:=av h.2.2.2.2;have bk:=av (aS.1 h.2.2.1).1;have bo:=av K.2;have S:=av D;clear a0 K h al az aC aD aT d0 d1 d2 d3 d4 d5 d6 E G H I aJ aK aM aO aP D;obtain⟨⟨d0,d1,d2,d3,d4,d5,d6⟩,E⟩:=fl bn.out;obtain⟨⟨G,H,I,aJ,aK,aM,aO⟩,aP⟩:=fl bm.out;have bu:n≠q:=by omega
   go_wp2_with fail;have Q:∀i,jX j m i j=jX j m i 2:=λi=>by
    unfold jX;by_cases d:i<j
    ·rw[if_pos ⟨d,d⟩,if_pos ⟨by omega,d⟩]
    ·rw[if_neg λB=>d B.1,if_neg λB=>d B.2]
   have Y:=r.out;have bE:=bk.out;have ba:=ng aI q 3 (ae y0) (ae y1) (ag y2) (af ya yl yc);have bs:bH (λb=>b<wr.heap.size) aI (Pn (dl aI q 3 (ae y0) (ae y1) (ag y2) (af ya yl yc)) n (ag wd) (ae (jX j m 0 j)) (ae (jX j m 1 j)) (ae y0) (ae y1) (ag y2) (af ya yl yc)):=(ba.mono λb _ d=>by omega).trans (CX _ _ _ _ _ _ _ _ _) λb _ d=>by omega
   exact aE (v:=ax #[.agg #[ag wd,ae (jX j m 0 j),ae (jX j m 1 j),ae y0,ae y1,ag y2,af ya yl yc],ae s]) (by simp[results,results24,go_sem,d0,d1,d2,d3,d4,d5,d6]) rfl ⟨wd,_,_,y0,y1,y2,ya,yl,yc,s,rfl,jm (aR.out.trans (ba.below aR.out.size λb bB d=>by omega)) (cT Y) (aA _),am ⟨⟨rfl,⟨rfl,S⟩,bi⟩,⟨rfl,Q 0,Q 1⟩,am ⟨rfl,bo.out _ bs⟩⟩⟩
def fA(n:Nat)(x:Tm (n+1)):aq:=if x.1.1=4 then match x.2.2[0]? with|some a=>if cm ⟨n,a⟩=2 then (gM n a).1.2.2 else .empty|none=> .empty else .empty
def bZ(n:Nat)(x:Tm (n+1)):List (Tm n):=if x.1.1=4 then match x.2.2[0]? with|some a=>if cm ⟨n,a⟩=2 then x.2.2.drop 1 else []|none=> []else []
def ui(wd s:aq):Bool:=wd.toList==s.toList
def F6:(n:Nat)->Tm n->List (Tm (n-1))
 | 0,_=> []
 | _+1,x=>x.2.2
def yC(n:Nat)(x:Tm n):aq:=(gM n x).1.2.2
def AM(M n:Nat)(a b c:Tm n):Option (Ac (M+1)):=if cm ⟨n,a⟩=2/\cm ⟨n,c⟩=5 then some (2,(zT M,bq (M+1) n b),(yC n a,qs n c))else none
def kB(M n:Nat)(wd:aq)(q:List (Tm n)):Option (Ac (M+1)):=
 if (ui wd oL && decide (q.length=2))=true then (q[0]?).bind λa=>(q[1]?).bind λb=>some (1,(bq (M+1) n a,bq (M+1) n b),(.empty,0))
 else if (ui wd kD && decide (q.length=3))=true then (q[0]?).bind λa=>(q[1]?).bind λb=>(q[2]?).bind λc=>AM M n a b c
 else if (ui wd oK && decide (q.length=1))=true then (q[0]?).bind λa=>some (3,(bq (M+1) n a,zT M),(.empty,0))
 else if (ui wd oM && decide (q.length=0))=true then some (4,(zT M,zT M),(.empty,0))else none
def tG(M:Nat):(n:Nat)->Tm n->Option (Ac (M+1))
 | 0,_=>none
 | n+1,x=>kB M n (fA n x) (bZ n x)
def tH(M n:Nat)(wd:aq)(q:List (Tm n)):Option (Cl (M+1)):=
 if (ui wd Oe && decide (q.length=4))=true then (q[0]?).bind λa=>(q[1]?).bind λb=>(q[2]?).bind λc=>(q[3]?).bind λd=>
  if cm ⟨n,c⟩=4 then (da (tG M (n-1)) (F6 n c)).map λl=>((bq (M+1) n a,bq (M+1) n b,bq (M+1) n d),(none,0),l)else none
 else none
def AL(M:Nat):(n:Nat)->Tm n->Option (Cl (M+1))
 | 0,_=>none
 | n+1,x=>tH M n (fA n x) (bZ n x)
def uI(M n:Nat)(wd:aq)(q:List (Tm n)):Option (Bh (M+1)):=
 if ui wd xr=true then (q[0]?).bind λa=>if cm ⟨n,a⟩=2 then (da (AL M n) (q.drop 1)).map λl=>(yC n a,(none,0),l)else none
 else none
def AK(M:Nat):(n:Nat)->Tm n->Option (Bh (M+1))
 | 0,_=>none
 | n+1,x=>uI M n (fA n x) (bZ n x)
def xF(M:Nat):(n:Nat)->Tm n->Option (List (Bh (M+1)))
 | 0,_=>none
 | n+1,x=>if ui (fA n x) px=true then da (AK M n) (bZ n x)else none
def rS{a:Type}(f:a->List az)(h:Nat->ah->a->Prop)(i:(Nat->Prop)->a->Prop)(S:a->a->Prop)(o:Option a)(w:ah)(e:Ending)(w':ah):Prop:=
 ∃(c:a)(d:Bool),e=aw (ax #[.agg (f c).toArray,.bool d])/\Hid (ap w w'/\d=o.isSome/\h w'.heap.size w' c/\i (λb=>w.heap.size<=b) c/\∀g,o=some g->S c g)
def mr{a:Type}(k:Nat)(f:a->List az)(i:Nat->ah->a->Prop)(j:(Nat->Prop)->a->Prop)(S:a->a->Prop)(o:Option (List a))(w:ah)(e:Ending)(w':ah):Prop:=
 ∃(l:List a)(d:ay)(c:Nat)(g:Bool),e=aw (ax #[af d l.length c,.bool g])/\Hid (ap w w'/\g=o.isSome/\(l.length<=c/\c<=maxLen)/\Lay w'.heap.size w' k f (i w'.heap.size w') d l/\uD (j (λb=>w.heap.size<=b)) (λb=>w.heap.size<=b) d l/\∀h,o=some h->fh S l h)
theorem sY{d:Type}(f:r->Option d)(p:List r)(k:Nat)(x:r)(h:p[k]?=some x)(l:List d)(y:d)(a:da f (p.take k)=some l)(i:f x=some y):da f (p.take (k+1))=some (l++ [y]):=by
 rw[dL,h];have key:∀(c:List r)(l:List d),da f c=some l->da f (c++ [x])=some (l++ [y]):=by
  intro c
  induction c with
  | nil=>intro l a;simp[da]at a;subst a;simp[da,i]
  | cons m c ih=>
   intro l a;simp only[da]at a;obtain⟨b,e,a⟩:=cv.1 a;obtain⟨j,g,rfl⟩:=cJ.1 a;simp only[fL,da,e,ih j g];rfl
 exact key _ _ a
theorem ph{l:dI}(b:l.all (λa=>a.oneCell')=true):∀a∈l,a.oneCell'=true:=λa c=>by
 rw[cZ]at b;exact b a c
def QF{a:Type}{n:Nat}(d:Nat->ah->a->Prop)(e:(Nat->Prop)->a->Prop)(S:a->a->Prop)(f:a->List az)(h:Nat)(T:TypeId)(g:Tm n->Option a)(p:List (Tm n))(w:ah)(k:Nat)(v:az)(wr:ah):Prop:=
 ∃(b c:List a),b.length=k/\fE d e f h T 0 w.heap.size b v w wr/\da g (p.take k)=some c/\fh S b c
theorem fE.slice{f:r->List az}{k:Nat}{T:TypeId}{xs:List r}{v:az}{wr:ah}(b:fE z u f k T B base xs v w0 wr):∃a c,v=af a xs.length c:=by
 rcases b.2.1.2 with⟨rfl,d⟩|⟨g,cap,e,rfl,_⟩
 ·exact⟨none,0,by rw[d]⟩
 ·exact⟨_,_,rfl⟩
theorem Ns:(Tryz.prog.info? 268).map (λi=>(i.zero,i.size,i.bytes))=some (some (.agg #[ae 0,ae 0,ae 0,ag .empty,af none 0 0,ae 0,ae 0,ag .empty,af none 0 0,ag .empty,ae 0]),11,144):=by kernel_rfl
theorem J6(n:Nat)(y:Ac n):∀a∈gZ n y,a.oneCell'=true:=ph rfl
theorem AR(M n:Nat)(p:List (Tm n))(len:Nat)(aq:Hid (p.length=len))(bh:len<=8)(a:ay)(pc B:Nat)(w:ah)(r:Hid (fV B w n p a))(aR:B<=w.heap.size)(H:Hid (∀x∈p,∀w1,ap w w1->au 172 #[dG n x] w1 (rS (gZ (M+1)) (jL (M+1)) (mP (M+1)) (DV (M+1)) (tG M n x) w1))):au 171 #[af a len pc,.func (Fn.func 172) #[] #[]] w (mr 11 (gZ (M+1)) (jL (M+1)) (mP (M+1)) (DV (M+1)) (da (tG M n) p) w):=by
 obtain⟨a2,hit,ar,aC,aD⟩:=bT Ns;have I:=av (⟨hit,ar,aC,aD⟩:_/\_/\_/\_);clear hit ar aC aD;have q:=av (fW (M+1));go_enter func171,ntmps171;go_wp2_with fail;go_loopw [6,13] (λv O wr=>∃(k:Nat)(aH:az),k<=len/\O=ae k/\aH=v/\Hid (QF (jL (M+1)) (mP (M+1)) (DV (M+1)) (gZ (M+1)) 11 268 (tG M n) p w k aH wr)) (λ_ O _=>len-(intOf O).toNat)
 case atStart=>exact⟨0,_,by omega,rfl,rfl,[],[],rfl,fE.nil _,by simp[da],fh.nil⟩
 case round=>
  obtain⟨k,v,bd,rfl,rfl,V⟩:=hrel;obtain⟨m,E,s,e,Y,W⟩:∃(m E:List (Ac (M+1))),Hid (m.length=k)/\Hid (fE (jL (M+1)) (mP (M+1)) (gZ (M+1)) 11 268 0 w.heap.size m v w wr)/\Hid (da (tG M n) (p.take k)=some E)/\Hid (fh (DV (M+1)) m E):=V.out;clear V;have N:w.heap.size<=wr.heap.size:=e.out.1.size;obtain⟨D,K,aF⟩:=e.out.slice;rw[s.out]at aF;subst aF;by_cases aY:k<len
  ·obtain⟨x,C⟩:∃x,p[k]?=some x:=⟨p[k]'(by rw[aq.out];exact aY),aV _⟩;have Z:=av C;rcases(r.out.below (e.out.1.mono aR))with r|⟨a3,po,rfl,bj,r⟩
   ·subst r;simp at C
   obtain⟨aG,a0⟩:=r k x C;have G:Hid (∀w1,ap wr w1->au 172 #[dG n x] w1 (rS (gZ (M+1)) (jL (M+1)) (mP (M+1)) (DV (M+1)) (tG M n x) w1)):=λw1 y=>H.out x (aU C) w1 (e.out.1.trans (y.mono N));obtain⟨o,A⟩:∃o,tG M n x=o:=⟨_,rfl⟩;rw[A]at G;have S:=av A;have bk:a3<wr.heap.size:=by omega
   clear r C A a0;cases n with
   | zero=>exact aG.elim
   | succ n=>
   obtain⟨a5,a6,a7,a8⟩:=aG;have J:dG (n+1) x=aB x.1.1 x.1.2.1 x.1.2.2 x.2.1.1 x.2.2.length x.2.1.2:=rfl;rw[J]at G;clear J;have be:(0:Int)<=(k:Int):=by omega
   have bg:(k:Int)<(len:Int):=by omega
   go_wp2_with fail;refine(G.out _ bf).mono ?_;rintro bb h ⟨d,a4,rfl,j⟩;have F:Hid (ap wr h):=bf.trans (j.out.1.mono (by simp));have ad:wr.heap.size<=h.heap.size:=F.out.size;have ab:Value.agg (gZ (M+1) d).toArray=.agg #[ae d.1,ae d.2.1.1.1.1,ae d.2.1.1.1.2.1,ag d.2.1.1.1.2.2,af d.2.1.1.2.1.1 d.2.1.1.2.2.length d.2.1.1.2.1.2,ae d.2.1.2.1.1,ae d.2.1.2.1.2.1,ag d.2.1.2.1.2.2,af d.2.1.2.2.1.1 d.2.1.2.2.2.length d.2.1.2.2.1.2,ag d.2.2.1,ae d.2.2.2]:=rfl;rw[ab];clear ab G a5 a6 a7 a8;cases a4
   ·have L:Hid (mr 11 (gZ (M+1)) (jL (M+1)) (mP (M+1)) (DV (M+1)) (da (tG M (n+1)) p) w (aw (ax #[af none 0 0,.bool false])) (h.alloc (.cells #[ae d.1,ae d.2.1.1.1.1,ae d.2.1.1.1.2.1,ag d.2.1.1.1.2.2,af d.2.1.1.2.1.1 d.2.1.1.2.2.length d.2.1.1.2.1.2,ae d.2.1.2.1.1,ae d.2.1.2.1.2.1,ag d.2.1.2.1.2.2,af d.2.1.2.2.1.1 d.2.1.2.2.2.length d.2.1.2.2.1.2,ag d.2.2.1,ae d.2.2.2] 268))):=by
      have an:da (tG M (n+1)) p=none:=mT _ p k x Z.out (by
       have y:=j.out.2.1;rw[S.out];cases o with
       | none=>rfl
       | some i=>cases y)
      have z:ap w h:=e.out.1.trans (F.out.mono N);refine⟨[],none,0,false,rfl,z.trans (bf.mono z.size),by rw[an];rfl,⟨aA _,aN _⟩,ak rfl,ak rfl,λi l=>by rw[an]at l;cases l⟩
    clear j e;go_wp2_with fail;exact aE (v:=ax #[af none 0 0,.bool false]) (by simp[results,results171,go_sem]) rfl L.out
   ·have X:=λ(P Q:Obj)(g c:Nat)(R:ah) aZ aW aS=>av (fE.step q.out (T:=268) (w1:=(h.alloc P).alloc Q) (w2:=R) (g:=g) (c:=c) e.out (aN _) N (F.out.trans ((bf.trans (bf.mono (by simp))).mono ad)) d (q.out.mono (by simp;omega) (q.out.below (bf.trans (bf.mono (by simp))) j.out.2.2.1)) (q.out.1 _ _ _ (λb z=>am (by simp at z;omega)) j.out.2.2.2.1) aZ aW aS);have U:=λ(P Q:Obj)=>av (dV e.out.2.1 (F.out.trans ((bf.trans (bf.mono (by simp)):ap h ((h.alloc P).alloc Q)).mono ad)));rw[s.out]at X U;go_wp2_with (at_builtin;refine wpList_append_lies _ rfl _ _ 227 rfl w.heap.size 268 a2 _ 11 144 underlying227 I.out.1 I.out.2.1 I.out.2.2.1 I.out.2.2.2 rfl (by decide) (af D k K) k (m.flatMap (gZ (M+1))) (by simp[Act.eval]) (U _ _).out ⟨h.heap.size+1,0,none⟩ 1 1 (gZ (M+1) d) (by simp[Act.eval]) rfl (World.news_of_block (cs:= #[ae d.1,ae d.2.1.1.1.1,ae d.2.1.1.1.2.1,ag d.2.1.1.1.2.2,af d.2.1.1.2.1.1 d.2.1.1.2.2.length d.2.1.1.2.1.2,ae d.2.1.2.1.1,ae d.2.1.2.1.2.1,ag d.2.1.2.1.2.2,af d.2.1.2.2.1.1 d.2.1.2.2.2.length d.2.1.2.2.1.2,ag d.2.2.1,ae d.2.2.2]) (t:=268) (fr:=(0,0)) (by have u:=aL (h.alloc (.cells #[ae d.1,ae d.2.1.1.1.1,ae d.2.1.1.1.2.1,ag d.2.1.1.1.2.2,af d.2.1.1.2.1.1 d.2.1.1.2.2.length d.2.1.1.2.1.2,ae d.2.1.2.1.1,ae d.2.1.2.1.2.1,ag d.2.1.2.1.2.2,af d.2.1.2.2.1.1 d.2.1.2.2.2.length d.2.1.2.2.1.2,ag d.2.2.1,ae d.2.2.2] 268)) (.cells #[ae d.1,ae d.2.1.1.1.1,ae d.2.1.1.1.2.1,ag d.2.1.1.1.2.2,af d.2.1.1.2.1.1 d.2.1.1.2.2.length d.2.1.1.2.1.2,ae d.2.1.2.1.1,ae d.2.1.2.1.2.1,ag d.2.1.2.1.2.2,af d.2.1.2.2.1.1 d.2.1.2.2.2.length d.2.1.2.2.1.2,ag d.2.2.1,ae d.2.2.2] 268);simp only[fP]at u;exact u)) (J6 _ _) (by decide) (by unfold maxLen;omega) (by omega) (by simp;omega) (h.heap.size+1+1) (by simp) ?_;intro aQ aO R ao al aj bi;have aM:=X _ _ aQ aO R ao al (by simpa using aj);clear ao al aj);have aI:Hid (∃i,o=some i/\DV (M+1) d i):=by
     have y:=j.out.2.1;cases o with
     | none=>cases y
     | some i=>exact⟨i,rfl,j.out.2.2.2.2 i rfl⟩
    obtain⟨i,l,a1⟩:=aI.out;have aK:=av (S.out.trans l);go_roundw
    case rel=>exact⟨k+1,_,by omega,by go_num,rfl,m++ [d],E++ [i],by simp[s.out],aM.out,sY _ _ _ _ Z.out _ _ Y.out aK.out,W.out.snoc a1⟩
    case measure=>simp[intOf];omega
  ·have L:Hid (mr 11 (gZ (M+1)) (jL (M+1)) (mP (M+1)) (DV (M+1)) (da (tG M n) p) w (aw (ax #[af D k K,.bool true])) wr):=by
     have ai:da (tG M n) p=some E:=by have u:=Y.out;rw[bI (by rw[aq.out];omega)]at u;exact u
     obtain⟨a9,ba,aa,aT,aX,A⟩:=fE.lay (f:=gZ (M+1)) (k:=11) q.out (λ_=>rfl) e.out;rw[s.out]at aa;injection aa with aP bc J;subst aP J;refine⟨m,D,K,true,by rw[s.out],e.out.1,by rw[ai];rfl,aT,aX,?_,λi l=>by rw[ai]at l;obtain rfl:=aJ l;exact W.out⟩;exact(dc q.out 11 (gZ (M+1)) D).1 _ _ _ (λb z=>by omega) A
   clear e;go_wp2_with fail;exact aE (v:=ax #[af D k K,.bool true]) (by simp[results,results171,go_sem]) rfl L.out
theorem EF:(Tryz.prog.info? 229).map (λi=>(i.zero,i.size,i.bytes))=some (some (.agg #[ae 0,ae 0,ag .empty,af none 0 0,ae 0,ae 0,ag .empty,af none 0 0,af none 0 0,ae 0,ae 0,ag .empty,af none 0 0]),13,192):=by kernel_rfl
theorem Ko(n:Nat)(y:Cl n):∀a∈fH n y,a.oneCell'=true:=ph rfl
theorem uM(M n:Nat)(p:List (Tm n))(len:Nat)(aq:Hid (p.length=len))(bh:len<=8)(a:ay)(pc B:Nat)(w:ah)(r:Hid (fV B w n p a))(aR:B<=w.heap.size)(H:Hid (∀x∈p,∀w1,ap w w1->au 146 #[dG n x] w1 (rS (fH (M+1)) (iR (M+1)) (kH (M+1)) (DR (M+1)) (AL M n x) w1))):au 145 #[af a len pc,.func (Fn.func 146) #[] #[]] w (mr 13 (fH (M+1)) (iR (M+1)) (kH (M+1)) (DR (M+1)) (da (AL M n) p) w):=by
 obtain⟨a2,hit,ar,aC,aD⟩:=bT EF;have I:=av (⟨hit,ar,aC,aD⟩:_/\_/\_/\_);clear hit ar aC aD;have q:=av (eN (M+1));go_enter func145,ntmps145;go_wp2_with fail;go_loopw [6,13] (λv O wr=>∃(k:Nat)(aH:az),k<=len/\O=ae k/\aH=v/\Hid (QF (iR (M+1)) (kH (M+1)) (DR (M+1)) (fH (M+1)) 13 229 (AL M n) p w k aH wr)) (λ_ O _=>len-(intOf O).toNat)
 case atStart=>exact⟨0,_,by omega,rfl,rfl,[],[],rfl,fE.nil _,by simp[da],fh.nil⟩
 case round=>
  obtain⟨k,v,bd,rfl,rfl,V⟩:=hrel;obtain⟨m,E,s,e,Y,W⟩:∃(m E:List (Cl (M+1))),Hid (m.length=k)/\Hid (fE (iR (M+1)) (kH (M+1)) (fH (M+1)) 13 229 0 w.heap.size m v w wr)/\Hid (da (AL M n) (p.take k)=some E)/\Hid (fh (DR (M+1)) m E):=V.out;clear V;have N:w.heap.size<=wr.heap.size:=e.out.1.size;obtain⟨D,K,aF⟩:=e.out.slice;rw[s.out]at aF;subst aF;by_cases aY:k<len
  ·obtain⟨x,C⟩:∃x,p[k]?=some x:=⟨p[k]'(by rw[aq.out];exact aY),aV _⟩;have Z:=av C;rcases(r.out.below (e.out.1.mono aR))with r|⟨a3,po,rfl,bj,r⟩
   ·subst r;simp at C
   obtain⟨aG,a0⟩:=r k x C;have G:Hid (∀w1,ap wr w1->au 146 #[dG n x] w1 (rS (fH (M+1)) (iR (M+1)) (kH (M+1)) (DR (M+1)) (AL M n x) w1)):=λw1 y=>H.out x (aU C) w1 (e.out.1.trans (y.mono N));obtain⟨o,A⟩:∃o,AL M n x=o:=⟨_,rfl⟩;rw[A]at G;have S:=av A;have bk:a3<wr.heap.size:=by omega
   clear r C A a0;cases n with
   | zero=>exact aG.elim
   | succ n=>
   obtain⟨a5,a6,a7,a8⟩:=aG;have J:dG (n+1) x=aB x.1.1 x.1.2.1 x.1.2.2 x.2.1.1 x.2.2.length x.2.1.2:=rfl;rw[J]at G;clear J;have be:(0:Int)<=(k:Int):=by omega
   have bg:(k:Int)<(len:Int):=by omega
   go_wp2_with fail;refine(G.out _ bf).mono ?_;rintro bb h ⟨d,a4,rfl,j⟩;have F:Hid (ap wr h):=bf.trans (j.out.1.mono (by simp));have ad:wr.heap.size<=h.heap.size:=F.out.size;have ab:Value.agg (fH (M+1) d).toArray=.agg #[ae d.1.1.1.1,ae d.1.1.1.2.1,ag d.1.1.1.2.2,af d.1.1.2.1.1 d.1.1.2.2.length d.1.1.2.1.2,ae d.1.2.1.1.1,ae d.1.2.1.1.2.1,ag d.1.2.1.1.2.2,af d.1.2.1.2.1.1 d.1.2.1.2.2.length d.1.2.1.2.1.2,af d.2.1.1 d.2.2.length d.2.1.2,ae d.1.2.2.1.1,ae d.1.2.2.1.2.1,ag d.1.2.2.1.2.2,af d.1.2.2.2.1.1 d.1.2.2.2.2.length d.1.2.2.2.1.2]:=rfl;rw[ab];clear ab G a5 a6 a7 a8;cases a4
   ·have L:Hid (mr 13 (fH (M+1)) (iR (M+1)) (kH (M+1)) (DR (M+1)) (da (AL M (n+1)) p) w (aw (ax #[af none 0 0,.bool false])) (h.alloc (.cells #[ae d.1.1.1.1,ae d.1.1.1.2.1,ag d.1.1.1.2.2,af d.1.1.2.1.1 d.1.1.2.2.length d.1.1.2.1.2,ae d.1.2.1.1.1,ae d.1.2.1.1.2.1,ag d.1.2.1.1.2.2,af d.1.2.1.2.1.1 d.1.2.1.2.2.length d.1.2.1.2.1.2,af d.2.1.1 d.2.2.length d.2.1.2,ae d.1.2.2.1.1,ae d.1.2.2.1.2.1,ag d.1.2.2.1.2.2,af d.1.2.2.2.1.1 d.1.2.2.2.2.length d.1.2.2.2.1.2] 229))):=by
      have an:da (AL M (n+1)) p=none:=mT _ p k x Z.out (by
       have y:=j.out.2.1;rw[S.out];cases o with
       | none=>rfl
       | some i=>cases y)
      have z:ap w h:=e.out.1.trans (F.out.mono N);refine⟨[],none,0,false,rfl,z.trans (bf.mono z.size),by rw[an];rfl,⟨aA _,aN _⟩,ak rfl,ak rfl,λi l=>by rw[an]at l;cases l⟩
    clear j e;go_wp2_with fail;exact aE (v:=ax #[af none 0 0,.bool false]) (by simp[results,results145,go_sem]) rfl L.out
   ·have X:=λ(P Q:Obj)(g c:Nat)(R:ah) aZ aW aS=>av (fE.step q.out (T:=229) (w1:=(h.alloc P).alloc Q) (w2:=R) (g:=g) (c:=c) e.out (aN _) N (F.out.trans ((bf.trans (bf.mono (by simp))).mono ad)) d (q.out.mono (by simp;omega) (q.out.below (bf.trans (bf.mono (by simp))) j.out.2.2.1)) (q.out.1 _ _ _ (λb z=>am (by simp at z;omega)) j.out.2.2.2.1) aZ aW aS);have U:=λ(P Q:Obj)=>av (dV e.out.2.1 (F.out.trans ((bf.trans (bf.mono (by simp)):ap h ((h.alloc P).alloc Q)).mono ad)));rw[s.out]at X U;go_wp2_with (at_builtin;refine wpList_append_lies _ rfl _ _ 174 rfl w.heap.size 229 a2 _ 13 192 underlying174 I.out.1 I.out.2.1 I.out.2.2.1 I.out.2.2.2 rfl (by decide) (af D k K) k (m.flatMap (fH (M+1))) (by simp[Act.eval]) (U _ _).out ⟨h.heap.size+1,0,none⟩ 1 1 (fH (M+1) d) (by simp[Act.eval]) rfl (World.news_of_block (cs:= #[ae d.1.1.1.1,ae d.1.1.1.2.1,ag d.1.1.1.2.2,af d.1.1.2.1.1 d.1.1.2.2.length d.1.1.2.1.2,ae d.1.2.1.1.1,ae d.1.2.1.1.2.1,ag d.1.2.1.1.2.2,af d.1.2.1.2.1.1 d.1.2.1.2.2.length d.1.2.1.2.1.2,af d.2.1.1 d.2.2.length d.2.1.2,ae d.1.2.2.1.1,ae d.1.2.2.1.2.1,ag d.1.2.2.1.2.2,af d.1.2.2.2.1.1 d.1.2.2.2.2.length d.1.2.2.2.1.2]) (t:=229) (fr:=(0,0)) (by have u:=aL (h.alloc (.cells #[ae d.1.1.1.1,ae d.1.1.1.2.1,ag d.1.1.1.2.2,af d.1.1.2.1.1 d.1.1.2.2.length d.1.1.2.1.2,ae d.1.2.1.1.1,ae d.1.2.1.1.2.1,ag d.1.2.1.1.2.2,af d.1.2.1.2.1.1 d.1.2.1.2.2.length d.1.2.1.2.1.2,af d.2.1.1 d.2.2.length d.2.1.2,ae d.1.2.2.1.1,ae d.1.2.2.1.2.1,ag d.1.2.2.1.2.2,af d.1.2.2.2.1.1 d.1.2.2.2.2.length d.1.2.2.2.1.2] 229)) (.cells #[ae d.1.1.1.1,ae d.1.1.1.2.1,ag d.1.1.1.2.2,af d.1.1.2.1.1 d.1.1.2.2.length d.1.1.2.1.2,ae d.1.2.1.1.1,ae d.1.2.1.1.2.1,ag d.1.2.1.1.2.2,af d.1.2.1.2.1.1 d.1.2.1.2.2.length d.1.2.1.2.1.2,af d.2.1.1 d.2.2.length d.2.1.2,ae d.1.2.2.1.1,ae d.1.2.2.1.2.1,ag d.1.2.2.1.2.2,af d.1.2.2.2.1.1 d.1.2.2.2.2.length d.1.2.2.2.1.2] 229);simp only[fP]at u;exact u)) (Ko _ _) (by decide) (by unfold maxLen;omega) (by omega) (by simp;omega) (h.heap.size+1+1) (by simp) ?_;intro aQ aO R ao al aj bi;have aM:=X _ _ aQ aO R ao al (by simpa using aj);clear ao al aj);have aI:Hid (∃i,o=some i/\DR (M+1) d i):=by
     have y:=j.out.2.1;cases o with
     | none=>cases y
     | some i=>exact⟨i,rfl,j.out.2.2.2.2 i rfl⟩
    obtain⟨i,l,a1⟩:=aI.out;have aK:=av (S.out.trans l);go_roundw
    case rel=>exact⟨k+1,_,by omega,by go_num,rfl,m++ [d],E++ [i],by simp[s.out],aM.out,sY _ _ _ _ Z.out _ _ Y.out aK.out,W.out.snoc a1⟩
    case measure=>simp[intOf];omega
  ·have L:Hid (mr 13 (fH (M+1)) (iR (M+1)) (kH (M+1)) (DR (M+1)) (da (AL M n) p) w (aw (ax #[af D k K,.bool true])) wr):=by
     have ai:da (AL M n) p=some E:=by have u:=Y.out;rw[bI (by rw[aq.out];omega)]at u;exact u
     obtain⟨a9,ba,aa,aT,aX,A⟩:=fE.lay (f:=fH (M+1)) (k:=13) q.out (λ_=>rfl) e.out;rw[s.out]at aa;injection aa with aP bc J;subst aP J;refine⟨m,D,K,true,by rw[s.out],e.out.1,by rw[ai];rfl,aT,aX,?_,λi l=>by rw[ai]at l;obtain rfl:=aJ l;exact W.out⟩;exact(dc q.out 13 (fH (M+1)) D).1 _ _ _ (λb z=>by omega) A
   clear e;go_wp2_with fail;exact aE (v:=ax #[af D k K,.bool true]) (by simp[results,results145,go_sem]) rfl L.out
theorem xD:(Tryz.prog.info? 176).map (λi=>(i.zero,i.size,i.bytes))=some (some (.agg #[ag .empty,af none 0 0]),2,40):=by kernel_rfl
theorem MR(n:Nat)(y:Bh n):∀a∈rK n y,a.oneCell'=true:=ph rfl
theorem rn(M n:Nat)(p:List (Tm n))(len:Nat)(aq:Hid (p.length=len))(bh:len<=8)(a:ay)(pc B:Nat)(w:ah)(r:Hid (fV B w n p a))(aR:B<=w.heap.size)(H:Hid (∀x∈p,∀w1,ap w w1->au 119 #[dG n x] w1 (rS (rK (M+1)) (rN (M+1)) (kG (M+1)) (xZ (M+1)) (AK M n x) w1))):au 118 #[af a len pc,.func (Fn.func 119) #[] #[]] w (mr 2 (rK (M+1)) (rN (M+1)) (kG (M+1)) (xZ (M+1)) (da (AK M n) p) w):=by
 obtain⟨a2,hit,ar,aC,aD⟩:=bT xD;have I:=av (⟨hit,ar,aC,aD⟩:_/\_/\_/\_);clear hit ar aC aD;have q:=av (eM (M+1));go_enter func118,ntmps118;go_wp2_with fail;go_loopw [6,13] (λv O wr=>∃(k:Nat)(aH:az),k<=len/\O=ae k/\aH=v/\Hid (QF (rN (M+1)) (kG (M+1)) (xZ (M+1)) (rK (M+1)) 2 176 (AK M n) p w k aH wr)) (λ_ O _=>len-(intOf O).toNat)
 case atStart=>exact⟨0,_,by omega,rfl,rfl,[],[],rfl,fE.nil _,by simp[da],fh.nil⟩
 case round=>
  obtain⟨k,v,bd,rfl,rfl,V⟩:=hrel;obtain⟨m,E,s,e,Y,W⟩:∃(m E:List (Bh (M+1))),Hid (m.length=k)/\Hid (fE (rN (M+1)) (kG (M+1)) (rK (M+1)) 2 176 0 w.heap.size m v w wr)/\Hid (da (AK M n) (p.take k)=some E)/\Hid (fh (xZ (M+1)) m E):=V.out;clear V;have N:w.heap.size<=wr.heap.size:=e.out.1.size;obtain⟨D,K,aF⟩:=e.out.slice;rw[s.out]at aF;subst aF;by_cases aY:k<len
  ·obtain⟨x,C⟩:∃x,p[k]?=some x:=⟨p[k]'(by rw[aq.out];exact aY),aV _⟩;have Z:=av C;rcases(r.out.below (e.out.1.mono aR))with r|⟨a3,po,rfl,bj,r⟩
   ·subst r;simp at C
   obtain⟨aG,a0⟩:=r k x C;have G:Hid (∀w1,ap wr w1->au 119 #[dG n x] w1 (rS (rK (M+1)) (rN (M+1)) (kG (M+1)) (xZ (M+1)) (AK M n x) w1)):=λw1 y=>H.out x (aU C) w1 (e.out.1.trans (y.mono N));obtain⟨o,A⟩:∃o,AK M n x=o:=⟨_,rfl⟩;rw[A]at G;have S:=av A;have bk:a3<wr.heap.size:=by omega
   clear r C A a0;cases n with
   | zero=>exact aG.elim
   | succ n=>
   obtain⟨a5,a6,a7,a8⟩:=aG;have J:dG (n+1) x=aB x.1.1 x.1.2.1 x.1.2.2 x.2.1.1 x.2.2.length x.2.1.2:=rfl;rw[J]at G;clear J;have be:(0:Int)<=(k:Int):=by omega
   have bg:(k:Int)<(len:Int):=by omega
   go_wp2_with fail;refine(G.out _ bf).mono ?_;rintro bb h ⟨d,a4,rfl,j⟩;have F:Hid (ap wr h):=bf.trans (j.out.1.mono (by simp));have ad:wr.heap.size<=h.heap.size:=F.out.size;have ab:Value.agg (rK (M+1) d).toArray=.agg #[ag d.1,af d.2.1.1 d.2.2.length d.2.1.2]:=rfl;rw[ab];clear ab G a5 a6 a7 a8;cases a4
   ·have L:Hid (mr 2 (rK (M+1)) (rN (M+1)) (kG (M+1)) (xZ (M+1)) (da (AK M (n+1)) p) w (aw (ax #[af none 0 0,.bool false])) (h.alloc (.cells #[ag d.1,af d.2.1.1 d.2.2.length d.2.1.2] 176))):=by
      have an:da (AK M (n+1)) p=none:=mT _ p k x Z.out (by
       have y:=j.out.2.1;rw[S.out];cases o with
       | none=>rfl
       | some i=>cases y)
      have z:ap w h:=e.out.1.trans (F.out.mono N);refine⟨[],none,0,false,rfl,z.trans (bf.mono z.size),by rw[an];rfl,⟨aA _,aN _⟩,ak rfl,ak rfl,λi l=>by rw[an]at l;cases l⟩
    clear j e;go_wp2_with fail;exact aE (v:=ax #[af none 0 0,.bool false]) (by simp[results,results118,go_sem]) rfl L.out
   ·have X:=λ(P Q:Obj)(g c:Nat)(R:ah) aZ aW aS=>av (fE.step q.out (T:=176) (w1:=(h.alloc P).alloc Q) (w2:=R) (g:=g) (c:=c) e.out (aN _) N (F.out.trans ((bf.trans (bf.mono (by simp))).mono ad)) d (q.out.mono (by simp;omega) (q.out.below (bf.trans (bf.mono (by simp))) j.out.2.2.1)) (q.out.1 _ _ _ (λb z=>am (by simp at z;omega)) j.out.2.2.2.1) aZ aW aS);have U:=λ(P Q:Obj)=>av (dV e.out.2.1 (F.out.trans ((bf.trans (bf.mono (by simp)):ap h ((h.alloc P).alloc Q)).mono ad)));rw[s.out]at X U;go_wp2_with (at_builtin;refine wpList_append_lies _ rfl _ _ 89 rfl w.heap.size 176 a2 _ 2 40 underlying89 I.out.1 I.out.2.1 I.out.2.2.1 I.out.2.2.2 rfl (by decide) (af D k K) k (m.flatMap (rK (M+1))) (by simp[Act.eval]) (U _ _).out ⟨h.heap.size+1,0,none⟩ 1 1 (rK (M+1) d) (by simp[Act.eval]) rfl (World.news_of_block (cs:= #[ag d.1,af d.2.1.1 d.2.2.length d.2.1.2]) (t:=176) (fr:=(0,0)) (by have u:=aL (h.alloc (.cells #[ag d.1,af d.2.1.1 d.2.2.length d.2.1.2] 176)) (.cells #[ag d.1,af d.2.1.1 d.2.2.length d.2.1.2] 176);simp only[fP]at u;exact u)) (MR _ _) (by decide) (by unfold maxLen;omega) (by omega) (by simp;omega) (h.heap.size+1+1) (by simp) ?_;intro aQ aO R ao al aj bi;have aM:=X _ _ aQ aO R ao al (by simpa using aj);clear ao al aj);have aI:Hid (∃i,o=some i/\xZ (M+1) d i):=by
     have y:=j.out.2.1;cases o with
     | none=>cases y
     | some i=>exact⟨i,rfl,j.out.2.2.2.2 i rfl⟩
    obtain⟨i,l,a1⟩:=aI.out;have aK:=av (S.out.trans l);go_roundw
    case rel=>exact⟨k+1,_,by omega,by go_num,rfl,m++ [d],E++ [i],by simp[s.out],aM.out,sY _ _ _ _ Z.out _ _ Y.out aK.out,W.out.snoc a1⟩
    case measure=>simp[intOf];omega
  ·have L:Hid (mr 2 (rK (M+1)) (rN (M+1)) (kG (M+1)) (xZ (M+1)) (da (AK M n) p) w (aw (ax #[af D k K,.bool true])) wr):=by
     have ai:da (AK M n) p=some E:=by have u:=Y.out;rw[bI (by rw[aq.out];omega)]at u;exact u
     obtain⟨a9,ba,aa,aT,aX,A⟩:=fE.lay (f:=rK (M+1)) (k:=2) q.out (λ_=>rfl) e.out;rw[s.out]at aa;injection aa with aP bc J;subst aP J;refine⟨m,D,K,true,by rw[s.out],e.out.1,by rw[ai];rfl,aT,aX,?_,λi l=>by rw[ai]at l;obtain rfl:=aJ l;exact W.out⟩;exact(dc q.out 2 (rK (M+1)) D).1 _ _ _ (λb z=>by omega) A
   clear e;go_wp2_with fail;exact aE (v:=ax #[af D k K,.bool true]) (by simp[results,results118,go_sem]) rfl L.out
theorem IW(k b:Int)(s:aq)(a:ay)(l c:Nat)(w:ah)(d:(k !=4)=true):au 117 #[aB k b s a l c] w λe w'=>e=aw (ax #[ag ⟨#[]⟩,af none 0 0])/\ap w w':=by
 go_enter func117,ntmps117;go_wp2_with fail;exact aE (v:=ax #[ag ⟨#[]⟩,af none 0 0]) (by simp[results,results117,go_sem]) rfl ⟨rfl,bf⟩
theorem CS(b:Int)(s:aq)(a:ay)(c:Nat)(w:ah):au 117 #[aB 4 b s a 0 c] w λe w'=>e=aw (ax #[ag ⟨#[]⟩,af none 0 0])/\ap w w':=by
 go_enter func117,ntmps117;go_wp2_with fail;exact aE (v:=ax #[ag ⟨#[]⟩,af none 0 0]) (by simp[results,results117,go_sem]) rfl ⟨rfl,bf⟩
theorem EZ(a:Int)(s:aq)(b o l c:Nat)(f:0<l)(y0:Int)(i:(y0 !=2)=true)(w:ah)(d:b<w.heap.size)(c0:ai w b o (ae y0)):au 117 #[.agg #[ae 4,ae a,ag s,af (some ⟨b,o,none⟩) l c]] w λe w'=>e=aw (ax #[ag ⟨#[]⟩,af none 0 0])/\ap w w':=by
 have g:((l:Int)==0)=false:=by simp;omega
 have h:(0:Int)<(l:Int):=by omega
 go_enter func117,ntmps117;go_wp2_with fail;exact aE (v:=ax #[ag ⟨#[]⟩,af none 0 0]) (by simp[results,results117,go_sem]) rfl ⟨rfl,bf⟩
theorem IV(d:Int)(s:aq)(b o l c:Nat)(i:0<l)(p:l<=c)(h:c<=9223372036854775807)(y2:aq)(w:ah)(g:b<w.heap.size)(c0:ai w b o (ae 2))(f:ai w b (o+2) (ag y2)):au 117 #[.agg #[ae 4,ae d,ag s,af (some ⟨b,o,none⟩) l c]] w λe w'=>e=aw (ax #[ag y2,af (if c=1 then some ⟨b,o,none⟩else some ⟨b,o+4,none⟩) (l-1) (c-1)])/\ap w w':=by
 have j:((l:Int)==0)=false:=by simp;omega
 have k:(0:Int)<(l:Int):=by omega
 have m:(1:Int)<=(l:Int):=by omega
 have n:(l:Int)<=(c:Int):=by omega
 by_cases a:c=1
 ·rw[if_pos a];obtain rfl:l=1:=by omega
  subst a;go_enter func117,ntmps117;go_wp2_with fail;go_region
  all_goals go_wp2_with fail
  all_goals exact aE (v:=ax #[ag y2,af (some ⟨b,o,none⟩) 0 0]) (by simp[results,results117,go_sem]) rfl ⟨rfl,bf.drew⟩
 ·rw[if_neg a];go_enter func117,ntmps117;go_wp2_with fail;go_region
  all_goals go_wp2_with fail
  all_goals exact aE (v:=ax #[ag y2,af (some ⟨b,o+4,none⟩) (l-1) (c-1)]) (by simp[results,results117,go_sem]) rfl ⟨rfl,bf.drew⟩
def bX(g:Nat)(w w':ah):Prop:=(w'.os=w.os/\w'.tape=w.tape/\w'.output=w.output)/\w'.heap.size=w.heap.size/\∀b,b≠g->w'.heap[b]?=w.heap[b]?
theorem bX.refl(g:Nat)(w:ah):bX g w w:=⟨⟨rfl,rfl,rfl⟩,rfl,λ_ _=>rfl⟩
theorem bX.set{g:Nat}(a:bX g w w')(o:Nat)(v:az):bX g w (w'.setCell ⟨g,o,none⟩ v):=
 ⟨a.1,by simpa [World.setCell]using a.2.1,λb c=>by
  have:g≠b:=λd=>c d.symm;rw[<-a.2.2 b c]
  simp[World.setCell,bS,this]⟩
theorem bX.below{g:Nat}(a:bX g w w')(c:ap w0 w)(e:w0.heap.size<=g):ap w0 w':=
 ⟨a.1.1.trans c.os,a.1.2.1.trans c.tape,a.1.2.2.trans c.output,by rw[a.2.1];exact c.size,λb d=>(a.2.2 b (by omega)).trans (c.block b d)⟩
theorem bX.stays(e:kI z u){g:Nat}(a:bX g w w')(d:¬P g){x:r}(i:u P x)(h:z w.heap.size w x):z w'.heap.size w' x:=by
 rw[a.2.1];exact e.2.2.1 P _ w w' x (λb f=>a.2.2 b (λc=>d (c▸f))) i h
theorem kV(g:Nat)(w:ah)(v0 v1 v2 v3 b c d e f h a:az):bX g w (((((((((((w.setCell ⟨g,0,none⟩ v0).setCell ⟨g,1,none⟩ v1).setCell ⟨g,2,none⟩ v2).setCell ⟨g,3,none⟩ v3).setCell ⟨g,4,none⟩ b).setCell ⟨g,5,none⟩ c).setCell ⟨g,6,none⟩ d).setCell ⟨g,7,none⟩ e).setCell ⟨g,8,none⟩ f).setCell ⟨g,9,none⟩ h).setCell ⟨g,10,none⟩ a):=bX.set (bX.set (bX.set (bX.set (bX.set (bX.set (bX.set (bX.set (bX.set (bX.set (bX.set (bX.refl _ _) _ _) _ _) _ _) _ _) _ _) _ _) _ _) _ _) _ _) _ _) _ _
theorem sk(g:Nat)(w:ah)(v0 v1 v2 v3 d e f h i j a b c:az):bX g w (((((((((((((w.setCell ⟨g,0,none⟩ v0).setCell ⟨g,1,none⟩ v1).setCell ⟨g,2,none⟩ v2).setCell ⟨g,3,none⟩ v3).setCell ⟨g,4,none⟩ d).setCell ⟨g,5,none⟩ e).setCell ⟨g,6,none⟩ f).setCell ⟨g,7,none⟩ h).setCell ⟨g,8,none⟩ i).setCell ⟨g,9,none⟩ j).setCell ⟨g,10,none⟩ a).setCell ⟨g,11,none⟩ b).setCell ⟨g,12,none⟩ c):=bX.set (bX.set (bX.set (bX.set (bX.set (bX.set (bX.set (bX.set (bX.set (bX.set (bX.set (bX.set (bX.set (bX.refl _ _) _ _) _ _) _ _) _ _) _ _) _ _) _ _) _ _) _ _) _ _) _ _) _ _) _ _
abbrev oD(M:Nat)(o:Option (Ac (M+1)))(w:ah)(e:Ending)(w':ah):Prop:=rS (gZ (M+1)) (jL (M+1)) (mP (M+1)) (DV (M+1)) o w e w'
def Qs(M:Nat):Ac (M+1):=(0,(zT M,zT M),(.empty,0))
theorem PH(M B:Nat)(w:ah):jL (M+1) B w (Qs M):=⟨by simp[Qs,dp],mh _ _ _,mh _ _ _,aN _,by simp[Qs,dp]⟩
theorem rk{o:Option (Ac (M+1))}(b:o=none)(a:ap w w'):oD M o w (aw (ax #[.agg #[ae 0,ae 0,ae 0,ag .empty,af none 0 0,ae 0,ae 0,ag .empty,af none 0 0,ag .empty,ae 0],.bool false])) w':=by
 subst b;exact⟨Qs M,false,rfl,a,rfl,PH _ _ _,⟨ak rfl,ak rfl⟩,λd c=>by cases c⟩
theorem CQ{P:aX}:(N n:Nat)->n<=N->(x:Tm n)->cG P n x->cG P N (bq N n x)
 | _,0,_,_,k=>k.elim
 | 0,n+1,h,_,_=>by omega
 | N+1,n+1,h,x,k=>by
  rcases k with k|⟨b,o,e,d,k⟩
  ·exact ak (by simp[bq,k])
  ·refine am ⟨b,o,e,d,λi y a=>?_⟩;simp only[bq,di]at a;obtain⟨c,f,rfl⟩:=cJ.1 a;exact CQ N n (by omega) c (k i c f)
theorem jj(a:n<=M+1){b y:Tm n}(c:In w'.heap.size w' n y)(d:cG P n y)(e:aK n y n b=true):In w'.heap.size w' (M+1) (bq (M+1) n y)/\cG P (M+1) (bq (M+1) n y)/\aK (M+1) (bq (M+1) n y) (M+1) (bq (M+1) n b)=true:=
 ⟨pP _ _ a _ _ _ c,CQ _ _ a _ d,pO a a e⟩
theorem KQ(w:ah)(a b c d:Obj):(((((w.alloc a).alloc b).alloc c).alloc d).heap[w.heap.size]?=some a/\((((w.alloc a).alloc b).alloc c).alloc d).heap[w.heap.size+1]?=some b/\((((w.alloc a).alloc b).alloc c).alloc d).heap[w.heap.size+1+1]?=some c/\((((w.alloc a).alloc b).alloc c).alloc d).heap[w.heap.size+1+1+1]?=some d)/\ap w ((((w.alloc a).alloc b).alloc c).alloc d)/\((((w.alloc a).alloc b).alloc c).alloc d).heap.size=w.heap.size+1+1+1+1:=by
 have f:=ld w a b;have e:=ld ((w.alloc a).alloc b) c d;have g:((w.alloc a).alloc b).heap.size=w.heap.size+1+1:=by simp
 rw[g]at e;refine⟨⟨?_,?_,e.1,e.2⟩,by go_grown,by simp⟩
 ·exact(ia _ d (by simp;omega)).trans ((ia _ c (by simp;omega)).trans f.1)
 ·exact(ia _ d (by simp)).trans ((ia _ c (by simp)).trans f.2)
theorem mS{c0 c g h i k l b:az}{t:TypeId}(a:w.heap[q]?=some (.cells #[c0,d,e,f,c,g,h,i,k,l,b] t)):(ai w q 0 c0/\ai w q 1 d/\ai w q 2 e/\ai w q 3 f/\ai w q 4 c/\ai w q 5 g/\ai w q 6 h/\ai w q 7 i/\ai w q 8 k/\ai w q 9 l/\ai w q 10 b)/\(∀j,w.frozen? ⟨q,j,none⟩=false)/\q<w.heap.size:=
 ⟨⟨aD a 0,aD a 1,aD a 2,aD a 3,aD a 4,aD a 5,aD a 6,aD a 7,aD a 8,aD a 9,aD a 10⟩,λj=>dt a j,(aS.1 a).1⟩
theorem ol{o:Option (Ac (M+1))}{g:Nat}(y e:Ac (M+1))(i:o=some e)(d:bX g w2 w')(a:ap w w2)(f:w.heap.size<=g)(h:jL (M+1) w2.heap.size w2 y)(c:mP (M+1) (λb=>g<b) y)(j:DV (M+1) y e):oD M o w (aw (ax #[.agg (gZ (M+1) y).toArray,.bool true])) w':=by
 subst i;exact⟨y,true,rfl,d.below a f,rfl,d.stays (fW _) (P:=λb=>g<b) (by omega) c h,(fW _).1 _ _ _ (λb a=>by omega) c,λl k=>by obtain rfl:=aJ k;exact j⟩
section
variable {P:Program}
end
theorem gA{g:Nat}(a:bX g w w'){b:Nat}(c:b≠g)(o:Nat):w'.cell? ⟨b,o,none⟩=w.cell? ⟨b,o,none⟩:=bN (a.2.2 b c) o
theorem N0(a:bX (q+1+1+1) w w')(k:(ai w q 2 v0/\w.cell? ⟨q+1+1,1,none⟩=some v1)/\w.cell? ⟨q+1,0,none⟩=some v2/\w.cell? ⟨q+1,1,none⟩=some v3/\w.cell? ⟨q+1,2,none⟩=some d/\w.cell? ⟨q+1,3,none⟩=some e):(ai w' q 2 v0/\w'.cell? ⟨q+1+1,1,none⟩=some v1)/\w'.cell? ⟨q+1,0,none⟩=some v2/\w'.cell? ⟨q+1,1,none⟩=some v3/\w'.cell? ⟨q+1,2,none⟩=some d/\w'.cell? ⟨q+1,3,none⟩=some e:=
 ⟨⟨(gA a (by omega) _).trans k.1.1,(gA a (by omega) _).trans k.1.2⟩,(gA a (by omega) _).trans k.2.1,(gA a (by omega) _).trans k.2.2.1,(gA a (by omega) _).trans k.2.2.2.1,(gA a (by omega) _).trans k.2.2.2.2⟩
theorem xI(M n:Nat)(X:n+1<=M+1)(a b c:Tm (n+1))(B:Nat)(w:ah)(u:In B w (n+1) a)(x:In B w (n+1) b)(y:In B w (n+1) c)(z:aM ⟨n+1,a⟩)(A:aM ⟨n+1,b⟩)(L:B<=w.heap.size):au 198 #[aB a.1.1 a.1.2.1 a.1.2.2 a.2.1.1 a.2.2.length a.2.1.2,aB b.1.1 b.1.2.1 b.1.2.2 b.2.1.1 b.2.2.length b.2.1.2,aB c.1.1 c.1.2.1 c.1.2.2 c.2.1.1 c.2.2.length c.2.1.2] w (oD M (AM M (n+1) a b c) w):=by
 obtain⟨o,i⟩:∃o,o=AM M (n+1) a b c:=⟨_,rfl⟩;rw[<-i];by_cases f:a.1.1=2
 ·by_cases m:c.1.1=5
  ·have q:Hid (o=some (2,(zT M,bq (M+1) (n+1) b),(a.1.2.2,c.1.2.1))):=by
     show _=_;rw[i];simp[AM,cm,f,m,yC,qs,gM,bR]
   clear i;have K:(a.1.1 !=2)=false:=by simp[f]
   have S:(c.1.1 !=5)=false:=by simp[m]
   have Y:a.1.2.2.size<=2048:=by
    have:=z (bR n a) (by simp[aI,bR]);have U:ek a.1.2.2=true:=by
     simp only[cN,bR,f]at this;simp at this;exact this.1.1
    simp only[ek,qX,aT,cV]at U;omega
   have O:Hid (∀j,ap w j->au 91 #[aB b.1.1 b.1.2.1 b.1.2.2 b.2.1.1 b.2.2.length b.2.1.2] j λl e=>∃d:Tm (n+1),l=aw (aB d.1.1 d.1.2.1 d.1.2.2 d.2.1.1 d.2.2.length d.2.1.2)/\Hid (ap j e/\In e.heap.size e (n+1) d/\cG (λC=>j.heap.size<=C) (n+1) d/\aK (n+1) d (n+1) b=true)):=
    λj t=>iD (n+1) b B j (x.below (t.mono L)) (aG L t.size) A
   have J:Hid (a.1.2.2.size<=maxLen/\dp c.1.2.1):=⟨u.1.2.2.1,y.1.2.1⟩;clear u x y z A f m;go_enter func198,ntmps198;go_wp2_with fail;have h:=av (KQ w (.cells #[ae a.1.1,ae a.1.2.1,ag a.1.2.2,af a.2.1.1 a.2.2.length a.2.1.2] 54) (.cells #[ae b.1.1,ae b.1.2.1,ag b.1.2.2,af b.2.1.1 b.2.2.length b.2.1.2] 54) (.cells #[ae c.1.1,ae c.1.2.1,ag c.1.2.2,af c.2.1.1 c.2.2.length c.2.1.2] 54) (.cells #[ae 0,ae 0,ae 0,ag ⟨#[]⟩,af none 0 0,ae 0,ae 0,ag ⟨#[]⟩,af none 0 0,ag ⟨#[]⟩,ae 0] 268));generalize N:(((w.alloc _).alloc _).alloc _).alloc _=F;rw[N]at h;clear N;have p:Hid (∀e,ap F e->(ai e w.heap.size 2 (ag a.1.2.2)/\e.cell? ⟨w.heap.size+1+1,1,none⟩=some (ae c.1.2.1))/\e.cell? ⟨w.heap.size+1,0,none⟩=some (ae b.1.1)/\e.cell? ⟨w.heap.size+1,1,none⟩=some (ae b.1.2.1)/\e.cell? ⟨w.heap.size+1,2,none⟩=some (ag b.1.2.2)/\e.cell? ⟨w.heap.size+1,3,none⟩=some (af b.2.1.1 b.2.2.length b.2.1.2)):=λe G=>by
    have l:=h.2.2;have t:=(G.block w.heap.size (by omega)).trans h.1.1;have f:=(G.block (w.heap.size+1) (by omega)).trans h.1.2.1;have T:=(G.block (w.heap.size+1+1) (by omega)).trans h.1.2.2.1;exact⟨⟨aD t 2,aD T 1⟩,aD f 0,aD f 1,aD f 2,aD f 3⟩
   obtain⟨⟨Z,al⟩,aa,ab,ad,aj⟩:=p.out F (aH _ _)
   go_region_held3 (λe=>(e.cell? ⟨w.heap.size,2,none⟩=some (ag a.1.2.2)/\e.cell? ⟨w.heap.size+1+1,1,none⟩=some (ae c.1.2.1))/\e.cell? ⟨w.heap.size+1,0,none⟩=some (ae b.1.1)/\e.cell? ⟨w.heap.size+1,1,none⟩=some (ae b.1.2.1)/\e.cell? ⟨w.heap.size+1,2,none⟩=some (ag b.1.2.2)/\e.cell? ⟨w.heap.size+1,3,none⟩=some (af b.2.1.1 b.2.2.length b.2.1.2)) (first|with_reducible assumption|with_reducible exact p.out _ r.out|with_reducible exact p.out _ D.out|with_reducible exact P.out _ (kV _ _ _ _ _ _ _ _ _ _ _ _ _)|exact p.out _ (aH _ _).drew)
    ((first
     | (go_at_call 91;refine(O _ h.2.1.drew).mono ?_;rintro l j ⟨d,rfl,s⟩;have D:=av (de s.1))
     | (go_at_call 112;refine(ew _ _ Y).mono ?_;rintro l w2 ⟨rfl,H⟩;have I:=av H;have r:=av (D.trans (H.mono D.size));have Q:=av ((r.block (w.heap.size+1+1+1) (by have:=h.2.2;omega)).trans h.1.2.2.2);clear H;obtain⟨⟨d0,d1,d2,d3,d4,d5,d6,d7,d8,d9,d10⟩,f0,an⟩:=mS Q;have P:=av (λR (W:bX (w.heap.size+1+1+1) w2 R)=>N0 W (p _ r)))))
   go_wp2_with fail;have E:=jj (M:=M) X ((s.2.1.below I).mono I.size) (s.2.2.1.mono λC (am:F.heap.size<=C)=>(show w.heap.size+1+1+1<C by have:=h.2.2;omega)) s.2.2.2;refine aE (v:=ax #[.agg #[ae 2,ae 0,ae 0,ag ⟨#[]⟩,af none 0 0,ae d.1.1,ae d.1.2.1,ag d.1.2.2,af d.2.1.1 d.2.2.length d.2.1.2,ag a.1.2.2,ae c.1.2.1],.bool true]) (by simp[results,results198,go_sem,d0,d1,d2,d3,d4,d5,d6,d7,d8,d9,d10]) rfl ?_;have l:gZ (M+1) (2,(zT M,bq (M+1) (n+1) d),(a.1.2.2,c.1.2.1))=[ae 2,ae 0,ae 0,ag ⟨#[]⟩,af none 0 0,ae d.1.1,ae d.1.2.1,ag d.1.2.2,af d.2.1.1 d.2.2.length d.2.1.2,ag a.1.2.2,ae c.1.2.1]:=by
    show ae 2::(kZ (M+1) (zT M)++kZ (M+1) (bq (M+1) (n+1) d)++ [ag a.1.2.2,ae c.1.2.1])=_;rw[gP];rfl
   have k:=λ(e:ah)(V:bX (w.heap.size+1+1+1) w2 e)=>ol (g:=w.heap.size+1+1+1) (w2:=w2) (2,(zT M,bq (M+1) (n+1) d),(a.1.2.2,c.1.2.1)) (2,(zT M,bq (M+1) (n+1) b),(a.1.2.2,c.1.2.1)) q (w:=w) V (h.2.1.trans (r.mono h.2.1.size)) (by omega) ⟨by simp[dp],mh _ _ _,E.1,J.1,J.2⟩ ⟨ak rfl,E.2.1⟩ ⟨rfl,mA (mh _ 0 w),E.2.2,rfl⟩;rw[l]at k;exact k _ (kV _ _ _ _ _ _ _ _ _ _ _ _ _)
  ·have K:(a.1.1 !=2)=false:=by simp[f]
   have S:(c.1.1 !=5)=true:=by simp[m]
   have q:Hid (o=none):=by
    show _=_;rw[i];simp[AM,cm,m]
   clear i;clear u x y z A f m;go_enter func198,ntmps198;go_wp2_with fail;exact aE (v:=ax #[.agg #[ae 0,ae 0,ae 0,ag .empty,af none 0 0,ae 0,ae 0,ag .empty,af none 0 0,ag .empty,ae 0],.bool false]) (by simp[results,results198,go_sem];rfl) rfl (rk q (by go_grown))
 ·have K:(a.1.1 !=2)=true:=by simp[f]
  have q:Hid (o=none):=by
   show _=_;rw[i];simp[AM,cm,f]
  clear i;clear u x y z A f;go_enter func198,ntmps198;go_wp2_with fail;exact aE (v:=ax #[.agg #[ae 0,ae 0,ae 0,ag .empty,af none 0 0,ae 0,ae 0,ag .empty,af none 0 0,ag .empty,ae 0],.bool false]) (by simp[results,results198,go_sem];rfl) rfl (rk q (by go_grown))
end Go.Proofs.YthjclakhibnamaaGreatDoor
