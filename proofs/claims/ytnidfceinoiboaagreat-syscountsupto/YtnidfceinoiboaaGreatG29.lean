/- What is proved here: plain facts and contracts that the claimed theorem stands on. No condition but those that each names. -/
import Derived.Test.YtnidfceinoiboaaGreatG28
namespace Go.Proofs.YtnidfceinoiboaaGreat
open Go.RowKit Go.Maps
set_option maxRecDepth 100000
set_option maxHeartbeats 2000000
variable {base n N:Nat} {wp:BL} {mo:Option Nat} {f:Int×Int->List (Tm N)} {sl:Int×Int->Value} {w:World}
def Kd(base:Nat)(wp:BL)(mo:Option Nat)(n N:Nat)(f:Int×Int->List (Tm N))(sl:Int×Int->Value)(k:Int×Int)(l:List (Tm N))(w w':World):Prop:=
 ∃a c,gt base wp a (n+1) N (fT f k l) c w'/\bf (qg wp mo sl) w w'/\∀b,qg wp a c b->qg wp mo sl b\/w.heap.size<=b
theorem DB:(Tryz.prog.info? 30).map (λi=>(i.zero,i.size,i.bytes))=some (some (.agg #[.int .i64 0,.int .i64 0,.string ⟨#[]⟩,.slice none 0 0]),4,56):=by kernel_rfl
theorem IF(a:Nat)(W:World):(binOp .eql 66 (.map (some a)) (.map none)).run Tryz.prog W=.ok (.bool false) W:=by kernel_rfl
theorem IE(W:World):(binOp .eql 66 (.map none) (.map none)).run Tryz.prog W=.ok (.bool true) W:=by kernel_rfl
theorem eS{S:Nat->Prop}{W a:World}(c:bf S W a){b:Nat}(e:b<W.heap.size)(d:¬S b):∀o v,W.cell? ⟨b,o,none⟩=some v->a.cell? ⟨b,o,none⟩=some v:=λo _ f=>(c.cell o e d).trans f
theorem Cd(wp:BL)(f:Nat)(j k:Int)(y0 y1:Int)(ys:ByteArray)(ya:Option Addr)(yl yc L sc:Nat)(sa:Option Addr)(xs:List Value)(base:Nat)(w wr:World)(aw:World->Nat->World->Prop)(an:World->Prop)(bc:L<1000)(be:base<=w.heap.size)(am:wp.b<w.heap.size)(a3:(f<w.heap.size/\wp.b≠f/\wr=(w.alloc (.cells #[.int .i64 j,.int .i64 k] 155)).alloc (.cells #[.int .i64 y0,.int .i64 y1,.string ys,.slice ya yl yc] 30)/\(∀b,(Value.slice sa L sc).ownBlock=some b->b<w.heap.size/\b≠wp.b)/\Hid (w.cell? ⟨wp.b,wp.o,none⟩=some (.map (some f))))\/(f=w.heap.size+1+1/\wr=(((w.alloc (.cells #[.int .i64 j,.int .i64 k] 155)).alloc (.cells #[.int .i64 y0,.int .i64 y1,.string ys,.slice ya yl yc] 30)).alloc (.map #[] 0)).setCell ⟨wp.b,wp.o,none⟩ (.map (some f))/\(∀b,(Value.slice sa L sc).ownBlock=some b->b<w.heap.size/\b≠wp.b)/\Hid (rI wp none w)))(aU:Hid (∀W,bf (λb=>b=f) wr W->W.ownsRow base 30 4 (.slice sa L sc) L xs))(aM:Hid (∀W,Below wr.heap.size wr W->∃(A:Nat)(a:World),(Instr.mapEntry 66 (.map (some f)) (pk (j,k))).run Tryz.prog W=.ok (.tuple #[.slice sa L sc,goInt A]) a/\(bf (λb=>b=f) W a/\a.heap.size=W.heap.size/\aw W A a)))(aV:Hid (∀W A a ab i g c,aw W A a->Below wr.heap.size wr W->bf (λb=>b=f) W a->a.heap.size=W.heap.size->Below a.heap.size a ab->ab.grownBy i (Value.slice sa L sc).ownBlock->i.ownsRow base 30 4 (.slice (some ⟨g,0,none⟩) (L+1) c) (L+1) (xs++ [.int .i64 y0,.int .i64 y1,.string ys,.slice ya yl yc])->((Value.slice sa L sc).ownBlock=some g\/g=ab.heap.size)-> ∃m,(Instr.entryStore 66 (.map (some f)) (goInt A) (.slice (some ⟨g,0,none⟩) (L+1) c)).run Tryz.prog i=.ok () m/\(an m/\bf (λb=>b=f) i m/\m.heap.size=i.heap.size))):Calls Tryz.prog 126 #[.pointer (some ⟨wp.b,wp.o,none⟩),.agg #[.int .i64 j,.int .i64 k],.agg #[.int .i64 y0,.int .i64 y1,.string ys,.slice ya yl yc]] w λe w'=>e=.returned (.tuple #[])/\an w':=by
 obtain⟨E,aD,aJ,aK,aL⟩:=bM DB;have N:Hid (Tryz.prog.info? 30=some E/\E.zero=some (.agg #[.int .i64 0,.int .i64 0,.string ⟨#[]⟩,.slice none 0 0])/\E.size=4/\E.bytes=56):=⟨aD,aJ,aK,aL⟩;clear aD aJ aK aL;rcases a3 with⟨ak,al,n,U,B⟩|⟨ak,n,U,B⟩
 case' inl=>
  have ad:=B.out;have aN:=IF f;have P:Hid (∃h d,h=w.heap.size/\d=w.heap.size+1):=⟨_,_,rfl,rfl⟩;go_enter Tryz.func126,Tryz.ntmps126;go_wp2_with fail;obtain⟨h,d,y,z⟩:=P.out;rw[<-n,<-z,<-y];have aI:wr.heap.size=w.heap.size+2:=by rw[n];simp
  have ao:Hid (Below w.heap.size w wr):=by
   rw[n];exact((ah _ _).alloc (ag _) _).alloc (by simp) _
  have Z:Hid (wr.heap[h]?=some (.cells #[.int .i64 j,.int .i64 k] 155)):=by
   rw[n,y];exact(((ah _ _).alloc (ag _) _).block w.heap.size (by simp)).trans (ax w _)
  have aa:Hid (wr.heap[d]?=some (.cells #[.int .i64 y0,.int .i64 y1,.string ys,.slice ya yl yc] 30)):=by
   rw[n,z];have u:=ax (w.alloc (.cells #[.int .i64 j,.int .i64 k] 155)) (.cells #[.int .i64 y0,.int .i64 y1,.string ys,.slice ya yl yc] 30);have e:(w.alloc (.cells #[.int .i64 j,.int .i64 k] 155)).heap.size=w.heap.size+1:=by simp
   rwa [e]at u
  have X:Hid (wr.cell? ⟨wp.b,wp.o,none⟩=some (.map (some f))):=(ao.out.cell (p:=⟨wp.b,wp.o,none⟩) am).trans ad;clear ao
 case' inr=>
  have ad:w.cell? ⟨wp.b,wp.o,none⟩=some (.map none):=B.out.cell.1;have ae:rI wp none (((w.alloc (.cells #[.int .i64 j,.int .i64 k] 155)).alloc (.cells #[.int .i64 y0,.int .i64 y1,.string ys,.slice ya yl yc] 30)).alloc (.map #[] 0)):=B.out.kept (((((ah w.heap.size w).alloc (ag _) _).alloc (by simp) _).alloc (by simp;omega) _).block wp.b am);have ba:(((w.alloc (.cells #[.int .i64 j,.int .i64 k] 155)).alloc (.cells #[.int .i64 y0,.int .i64 y1,.string ys,.slice ya yl yc] 30)).alloc (.map #[] 0)).frozen? ⟨wp.b,wp.o,none⟩=false:=ae.cell.2 _;have bb:(((w.alloc (.cells #[.int .i64 j,.int .i64 k] 155)).alloc (.cells #[.int .i64 y0,.int .i64 y1,.string ys,.slice ya yl yc] 30)).alloc (.map #[] 0)).cell? ⟨wp.b,wp.o,none⟩=some (.map none):=ae.cell.1;clear ae;have al:wp.b≠f:=by omega
  have aN:=IE;have bg:= @jY Tryz.prog;have P:Hid (∃h d,h=w.heap.size/\d=w.heap.size+1):=⟨_,_,rfl,rfl⟩;go_enter Tryz.func126,Tryz.ntmps126;go_wp2_with fail;obtain⟨h,d,y,z⟩:=P.out;rw[<-ak,<-n,<-z,<-y];have aI:wr.heap.size=w.heap.size+3:=by rw[n];simp[World.setCell]
  have af:∀b,b≠wp.b->wr.heap[b]?=(((w.alloc (.cells #[.int .i64 j,.int .i64 k] 155)).alloc (.cells #[.int .i64 y0,.int .i64 y1,.string ys,.slice ya yl yc] 30)).alloc (.map #[] 0)).heap[b]? :=λb D=>by
   rw[n];have:wp.b≠b:=λe=>D e.symm;simp[World.setCell,bJ,this]
  have Z:Hid (wr.heap[h]?=some (.cells #[.int .i64 j,.int .i64 k] 155)):=by
   rw[af h (by omega),y];exact((((ah _ _).alloc (ag _) _).alloc (by simp) _).block w.heap.size (by simp)).trans (ax w _)
  have aa:Hid (wr.heap[d]?=some (.cells #[.int .i64 y0,.int .i64 y1,.string ys,.slice ya yl yc] 30)):=by
   rw[af d (by omega),z];have u:=ax (w.alloc (.cells #[.int .i64 j,.int .i64 k] 155)) (.cells #[.int .i64 y0,.int .i64 y1,.string ys,.slice ya yl yc] 30);have e:(w.alloc (.cells #[.int .i64 j,.int .i64 k] 155)).heap.size=w.heap.size+1:=by simp
   rw[e]at u;exact(((ah _ _).alloc (ag _) _).block (w.heap.size+1) (by simp)).trans u
  have X:Hid (wr.cell? ⟨wp.b,wp.o,none⟩=some (.map (some f))):=by
   rw[n];exact(rI.set (mo':=some f) (B.out.kept (((((ah w.heap.size w).alloc (ag _) (.cells #[.int .i64 j,.int .i64 k] 155)).alloc (by simp) (.cells #[.int .i64 y0,.int .i64 y1,.string ys,.slice ya yl yc] 30)).alloc (by simp;omega) (.map #[] 0)).block wp.b am))).cell.1
  clear af
 all_goals
  have aE:h<wr.heap.size:=by omega
  have aF:d<wr.heap.size:=by omega
  have aG:wp.b<wr.heap.size:=by omega
  have a5:f<wr.heap.size:=by omega
  have bd:base<=wr.heap.size:=by omega
  have T:h≠f:=by omega
  have x:d≠f:=by omega
  have V:∀b,(Value.slice sa L sc).ownBlock=some b->b≠h/\b≠d/\b≠wp.b:=λb D=>⟨by have:=(U b D).1;omega,by have:=(U b D).1;omega,(U b D).2⟩;have O:Hid (∀W,Below wr.heap.size wr W->W.cell? ⟨wp.b,wp.o,none⟩=some (.map (some f))/\(W.cell? ⟨h,0,none⟩=some (.int .i64 j)/\W.cell? ⟨h,1,none⟩=some (.int .i64 k))/\(W.cell? ⟨d,0,none⟩=some (.int .i64 y0)/\W.cell? ⟨d,1,none⟩=some (.int .i64 y1)/\W.cell? ⟨d,2,none⟩=some (.string ys)/\W.cell? ⟨d,3,none⟩=some (.slice ya yl yc))):=by
   intro W q;have az:=(q.block h aE).trans Z.out;have R:=(q.block d aF).trans aa.out;exact⟨(q.cell (p:=⟨wp.b,wp.o,none⟩) aG).trans X.out,⟨by simp[World.cell?,az],by simp[World.cell?,az]⟩,by simp[World.cell?,R],by simp[World.cell?,R],by simp[World.cell?,R],by simp[World.cell?,R]⟩
  have Y:Hid (∀C W a,bf C W a->wr.heap.size<=W.heap.size->¬C wp.b->¬C h->¬C d->(W.cell? ⟨wp.b,wp.o,none⟩=some (.map (some f))/\(W.cell? ⟨h,0,none⟩=some (.int .i64 j)/\W.cell? ⟨h,1,none⟩=some (.int .i64 k))/\(W.cell? ⟨d,0,none⟩=some (.int .i64 y0)/\W.cell? ⟨d,1,none⟩=some (.int .i64 y1)/\W.cell? ⟨d,2,none⟩=some (.string ys)/\W.cell? ⟨d,3,none⟩=some (.slice ya yl yc)))->
    a.cell? ⟨wp.b,wp.o,none⟩=some (.map (some f))/\(a.cell? ⟨h,0,none⟩=some (.int .i64 j)/\a.cell? ⟨h,1,none⟩=some (.int .i64 k))/\(a.cell? ⟨d,0,none⟩=some (.int .i64 y0)/\a.cell? ⟨d,1,none⟩=some (.int .i64 y1)/\a.cell? ⟨d,2,none⟩=some (.string ys)/\a.cell? ⟨d,3,none⟩=some (.slice ya yl yc))):=by
   rintro C W a l bh a7 a8 a9 ⟨F,⟨G,H⟩,I,J,K,M⟩;have aY:=eS l (b:=wp.b) (by omega) a7;have ay:=eS l (b:=h) (by omega) a8;have Q:=eS l (b:=d) (by omega) a9;exact⟨aY _ _ F,⟨ay _ _ G,ay _ _ H⟩,Q _ _ I,Q _ _ J,Q _ _ K,Q _ _ M⟩
  have aq:Hid (∀W a,Below wr.heap.size wr W->bf (λb=>b=f) W a->a.cell? ⟨wp.b,wp.o,none⟩=some (.map (some f))/\(a.cell? ⟨h,0,none⟩=some (.int .i64 j)/\a.cell? ⟨h,1,none⟩=some (.int .i64 k))/\(a.cell? ⟨d,0,none⟩=some (.int .i64 y0)/\a.cell? ⟨d,1,none⟩=some (.int .i64 y1)/\a.cell? ⟨d,2,none⟩=some (.string ys)/\a.cell? ⟨d,3,none⟩=some (.slice ya yl yc))):=
   λW a q l=>Y.out _ W a l q.size al T x (O.out W q)
  have aT:Hid (∀W a i,Below wr.heap.size wr W->bf (λb=>b=f) W a->a.grownBy i (Value.slice sa L sc).ownBlock->i.cell? ⟨wp.b,wp.o,none⟩=some (.map (some f))/\(i.cell? ⟨h,0,none⟩=some (.int .i64 j)/\i.cell? ⟨h,1,none⟩=some (.int .i64 k))/\(i.cell? ⟨d,0,none⟩=some (.int .i64 y0)/\i.cell? ⟨d,1,none⟩=some (.int .i64 y1)/\i.cell? ⟨d,2,none⟩=some (.string ys)/\i.cell? ⟨d,3,none⟩=some (.slice ya yl yc))):=
   λW a i q l a4=>Y.out _ a i (dS a4) (au q.size l.size) (λe=>(V _ e).2.2 rfl) (λe=>(V _ e).1 rfl) (λe=>(V _ e).2.1 rfl) (aq.out W a q l)
  have r:Hid (Below wr.heap.size wr (wr.alloc (.cells #[.int .i64 y0,.int .i64 y1,.string ys,.slice ya yl yc] 30)).drew):=(show Below _ _ _ by go_grown);have av:Hid ((wr.alloc (.cells #[.int .i64 y0,.int .i64 y1,.string ys,.slice ya yl yc] 30)).drew.heap.size=wr.heap.size+1):=(show _=_ by simp[World.drew]);have aO:Hid (∀a,bf (λb=>b=f) (wr.alloc (.cells #[.int .i64 y0,.int .i64 y1,.string ys,.slice ya yl yc] 30)).drew a->bf (λb=>b=f) wr a):=λa l=>bf.trans (aC r.out _) l λ_ _ e=>e
  have aP:Hid (∀a,bf (λb=>b=f) (wr.alloc (.cells #[.int .i64 y0,.int .i64 y1,.string ys,.slice ya yl yc] 30)).drew a->a.heap[wr.heap.size]?=some (.cells #[.int .i64 y0,.int .i64 y1,.string ys,.slice ya yl yc] 30)):=
   λa l=>(l.block wr.heap.size (by rw[av.out];omega) (by omega)).trans (ax wr _)
  have aS:Hid (∀i m,(i.cell? ⟨wp.b,wp.o,none⟩=some (.map (some f))/\(i.cell? ⟨h,0,none⟩=some (.int .i64 j)/\i.cell? ⟨h,1,none⟩=some (.int .i64 k))/\(i.cell? ⟨d,0,none⟩=some (.int .i64 y0)/\i.cell? ⟨d,1,none⟩=some (.int .i64 y1)/\i.cell? ⟨d,2,none⟩=some (.string ys)/\i.cell? ⟨d,3,none⟩=some (.slice ya yl yc)))->bf (λb=>b=f) i m->(m.cell? ⟨wp.b,wp.o,none⟩=some (.map (some f))/\(m.cell? ⟨h,0,none⟩=some (.int .i64 j)/\m.cell? ⟨h,1,none⟩=some (.int .i64 k))/\(m.cell? ⟨d,0,none⟩=some (.int .i64 y0)/\m.cell? ⟨d,1,none⟩=some (.int .i64 y1)/\m.cell? ⟨d,2,none⟩=some (.string ys)/\m.cell? ⟨d,3,none⟩=some (.slice ya yl yc)))):=by
   rintro i m ⟨F,⟨G,H⟩,I,J,K,M⟩ l;have lt:=λ(b o:Nat)(v:Value)(u:i.cell? ⟨b,o,none⟩=some v)=>jX i ⟨b,o,none⟩ u;exact⟨eS l (lt _ _ _ F) al _ _ F,⟨eS l (lt _ _ _ G) T _ _ G,eS l (lt _ _ _ H) T _ _ H⟩,eS l (lt _ _ _ I) x _ _ I,eS l (lt _ _ _ J) x _ _ J,eS l (lt _ _ _ K) x _ _ K,eS l (lt _ _ _ M) x _ _ M⟩
  obtain⟨F,⟨G,H⟩,I,J,K,M⟩:=O.out wr (ah _ _);obtain⟨A,a,a1,S⟩:=aM.out _ r.out;have s:=ai S;have aQ:=ai (aq.out _ _ r.out S.1);have aX:=ai (S.2.1.trans av.out);simp only[pk,goInt]at a1;clear S;clear ak y z n P aI X Z aa Y ad aE aF aG a5 T x V;go_wp2_with fail
  go_region_held3 (λW=>W.cell? ⟨wp.b,wp.o,none⟩=some (.map (some f))/\(W.cell? ⟨h,0,none⟩=some (.int .i64 j)/\W.cell? ⟨h,1,none⟩=some (.int .i64 k))/\(W.cell? ⟨d,0,none⟩=some (.int .i64 y0)/\W.cell? ⟨d,1,none⟩=some (.int .i64 y1)/\W.cell? ⟨d,2,none⟩=some (.string ys)/\W.cell? ⟨d,3,none⟩=some (.slice ya yl yc)))
   (first|(go_keep;done)|exact O.out _ (ah _ _).drew|exact O.out _ r.out|exact aQ.out|exact ap.out|exact aR.out) ((first
    | (refine step_append_lies _ rfl _ _ 28 rfl base 30 E _ 4 56 Tryz.underlying28 N.out.1 N.out.2.1 N.out.2.2.1 N.out.2.2.2 rfl (by decide) (.slice sa L sc) L xs (by simp[Act.eval]) (aU.out _ (aO.out _ s.out.1)) ⟨wr.heap.size,0,none⟩ 1 1 [.int .i64 y0,.int .i64 y1,.string ys,.slice ya yl yc] (by simp[Act.eval]) rfl (World.news_of_block (cs:= #[.int .i64 y0,.int .i64 y1,.string ys,.slice ya yl yc]) (t:=30) (fr:=(0,0)) (aP.out _ s.out.1)) (by simp[Value.oneCell']) (by decide) (by unfold maxLen;omega) (by omega) (by have:=aX.out;omega) _ rfl ?_;intro a0 aZ i aH aj aB a6;have aW:=aV.out _ _ _ _ _ a0 aZ s.out.2.2 r.out s.out.1 s.out.2.1 (ah _ _) aj aH aB;obtain⟨m,a2,aA⟩:=aW;have ar:=ai aA;simp only[goInt]at a2;have ap:=ai (aT.out _ _ _ r.out s.out.1 aj);have aR:=ai (aS.out _ _ ap.out ar.out.2.1);clear aH aj aB a6 aA)))
  exact dP (v:=.tuple #[]) (by simp[results]) rfl ⟨rfl,ar.out.1⟩
variable {base n N:Nat} {wp:BL} {mo:Option Nat} {f:Int×Int->List (Tm N)} {sl:Int×Int->Value} {w:World}
theorem mG.at{v:Value}{l:List (Tm N)}(d:mG base N v l w):∃a c,v=.slice a l.length c/\w.ownsRow base 30 4 (.slice a l.length c) l.length (dd N l):=by
 obtain⟨a,c,b⟩:=d.sliced;refine⟨a,c,b,?_⟩;rw[<-b];exact d
theorem CU(y:Tm (N+1)):vj (iv (N+1) y)=[.int .i64 y.1.1,.int .i64 y.1.2.1,.string y.1.2.2,.slice y.2.1.1 y.2.2.length y.2.1.2]:=rfl
theorem um{e:Nat}(h:gt base wp (some e) n N f sl w):wp.b≠e:=by
 intro g;obtain⟨_,i,c⟩:=h;rcases c with⟨c,_⟩|⟨m,a,j⟩
 ·cases c
 ·injection a with a;subst a g;obtain⟨k,⟨es,l,d,_⟩,_⟩:=j.map;rw[i.2]at d;cases d
theorem xG(c:gt base wp mo n N f sl w){k:Int×Int}(g:I2 k):(sl k).ownBlock≠some wp.b:=by
 intro d;obtain⟨h,a⟩:=dT (c.row g) wp.b d;rw[c.2.1.2]at a;injection a with a;injection a with _ e _;exact c.2.1.1.2 e
theorem If{f:Int×Int->List (Tm (N+1))}(d:gt base wp mo n (N+1) f sl w){k:Int×Int}(i:I2 k)(y:Tm (N+1))(ad:n<999999)(W:(f k).length<1000):Calls Tryz.prog 126 #[.pointer (some ⟨wp.b,wp.o,none⟩),pk k,dg (N+1) y] w λe w'=>e=.returned (.tuple #[])/\Kd base wp mo n (N+1) f sl k (f k++ [y]) w w':=by
 have v:=d.lt wp.b (ae rfl);rcases d.2.2 with⟨rfl,rfl,rfl⟩|⟨m,rfl,D⟩
 ·obtain⟨wr,j⟩:∃wr,wr=(((w.alloc (.cells #[.int .i64 k.1,.int .i64 k.2] 155)).alloc (.cells #[.int .i64 y.1.1,.int .i64 y.1.2.1,.string y.1.2.2,.slice y.2.1.1 y.2.2.length y.2.1.2] 30)).alloc (.map #[] 0)).setCell ⟨wp.b,wp.o,none⟩ (.map (some (w.heap.size+1+1))):=⟨_,rfl⟩;have Y:wr.heap.size=w.heap.size+3:=by rw[j];simp[World.setCell]
  have T:bf (λb=>b=wp.b) w wr:=by
   rw[j];refine bf.trans (aC (((((ah w.heap.size w).alloc (ag _) _).alloc (by simp) _).alloc (by simp;omega) _)) _) (bH _ wp.b wp.o _) λ_ _ e=>e
  have Z:rI wp (some (w.heap.size+1+1)) wr:=by
   rw[j];exact(d.2.1.kept (((((ah w.heap.size w).alloc (ag _) (.cells #[.int .i64 k.1,.int .i64 k.2] 155)).alloc (by simp) (.cells #[.int .i64 y.1.1,.int .i64 y.1.2.1,.string y.1.2.2,.slice y.2.1.1 y.2.2.length y.2.1.2] 30)).alloc (by simp;omega) (.map #[] 0)).block wp.b v.2)).set
  have l:GM base (w.heap.size+1+1) n (N+1) (λ_=> []) (λ_=>lw) wr:=by
   have P:=GM.new ((w.alloc (.cells #[.int .i64 k.1,.int .i64 k.2] 155)).alloc (.cells #[.int .i64 y.1.1,.int .i64 y.1.2.1,.string y.1.2.2,.slice y.2.1.1 y.2.2.length y.2.1.2] 30)) (N+1);have e:((w.alloc (.cells #[.int .i64 k.1,.int .i64 k.2] 155)).alloc (.cells #[.int .i64 y.1.1,.int .i64 y.1.2.1,.string y.1.2.2,.slice y.2.1.1 y.2.2.length y.2.1.2] 30)).heap.size=w.heap.size+1+1:=by simp
   rw[e]at P
   have Q:=(P.kee (bH _ wp.b wp.o (.map (some (w.heap.size+1+1)))) λb a e=>by
    rcases a with a|⟨x,_,a⟩
    ·omega
    ·simp[lw,Value.ownBlock]at a)
   rw[<-j]at Q;exact(Q.rebase (by omega)).mono (aD _)
  refine(Cd wp (w.heap.size+1+1) k.1 k.2 y.1.1 y.1.2.1 y.1.2.2 y.2.1.1 y.2.2.length y.2.1.2 0 0 none [] base w wr (λh r p=>J0 base (w.heap.size+1+1) n (N+1) (λ_=> []) (λ_=>lw) k r h p) (λw'=>Kd base wp none n (N+1) (λ_=> []) (λ_=>lw) k ([]++ [y]) w w') (by omega) (by omega) v.2 (af ⟨rfl,j,λb a=>by simp[Value.ownBlock]at a,d.2.1⟩) ?_ ?_ ?_).mono λe w' d=>d
  ·intro h g;exact⟨rfl,ae ⟨rfl,rfl⟩⟩
  ·intro h g;exact l.open i (by omega) g
  ·intro h r p R ab S c C g F J B t H s;obtain⟨O,I,E,G,K⟩:=J0.done l i C g F J B t (y:=y) (L:=0) rfl (by simpa [dd,cO,CU]using H) s;refine⟨O,I,?_,G,K⟩;obtain⟨aa,z,q,A⟩:=E;have M:¬JM (w.heap.size+1+1) (λ_=>lw) wp.b:=by
    rintro (e|⟨x,_,e⟩)
    ·omega
    ·simp[lw,Value.ownBlock]at e
   refine⟨some (w.heap.size+1+1),_,⟨d.1,Z.kept (q.block wp.b (by omega) M),af ⟨_,rfl,z⟩⟩,?_,λb a=>?_⟩
   ·refine bf.trans (T.mono λb _ e=>ae e) q λb a e=>?_;rcases e with e|⟨x,_,e⟩
    ·omega
    ·simp[lw,Value.ownBlock]at e
   ·rcases a with a|a|a
    ·exact ae (ae a)
    ·injection a with a;exact af (by omega)
    ·rcases A b (af a)with(e|⟨x,_,e⟩)|e
     ·exact af (by omega)
     ·simp[lw,Value.ownBlock]at e
     ·exact af (by omega)
 ·obtain⟨sa,sc,u,ai⟩:=(D.row k i).at;have X:=D.lt m (ae rfl);obtain⟨wr,j⟩:∃wr,wr=(w.alloc (.cells #[.int .i64 k.1,.int .i64 k.2] 155)).alloc (.cells #[.int .i64 y.1.1,.int .i64 y.1.2.1,.string y.1.2.2,.slice y.2.1.1 y.2.2.length y.2.1.2] 30):=⟨_,rfl⟩;have a:Below w.heap.size w wr:=by
   rw[j];exact((ah _ _).alloc (ag _) _).alloc (by simp) _
  have Y:wr.heap.size=w.heap.size+2:=by rw[j];simp
  have l:GM base m n (N+1) f sl wr:=D.kee (aC a λ_=>False) λ_ _ U=>U;refine(Cd wp m k.1 k.2 y.1.1 y.1.2.1 y.1.2.2 y.2.1.1 y.2.2.length y.2.1.2 (f k).length sc sa (dd (N+1) (f k)) base w wr (λh r p=>J0 base m n (N+1) f sl k r h p) (λw'=>Kd base wp (some m) n (N+1) f sl k (f k++ [y]) w w') W (by omega) v.2 (ae ⟨X.2,um d,j,λb a=>?_,d.cell.1⟩) ?_ ?_ ?_).mono λe w' d=>d
  ·rw[<-u]at a;exact⟨((d.row i).lt b a).2,λe=>xG d i (by rw[a,e])⟩
  ·intro h g;rw[<-u];exact aT (l.row k i) g λb a e=>l.ne i (by rw[a,e])
  ·intro h g;rw[<-u];exact l.open i (by omega) g
  ·intro h r p R ab S c C g F J B t H s;rw[<-u]at t s;obtain⟨O,I,E,G,K⟩:=J0.done l i C g F J B t (y:=y) (L:=(f k).length) rfl (by simpa [CU]using H) s;refine⟨O,I,?_,G,K⟩;obtain⟨aa,z,q,A⟩:=E;have M:¬JM m sl wp.b:=by
    rintro (e|⟨x,V,e⟩)
    ·exact um d e
    ·exact xG d V e
   refine⟨some m,_,⟨d.1,(d.2.1.kept (a.block wp.b v.2)).kept (q.block wp.b (by omega) M),af ⟨_,rfl,z⟩⟩,?_,λb a=>?_⟩
   ·exact bf.trans (aC a _) q λb _ e=>Cv e
   ·rcases a with a|a|a
    ·exact ae (ae a)
    ·injection a with a;exact ae (af (ae (by rw[a])))
    ·rcases A b (af a)with e|e
     ·exact ae (Cv e)
     ·exact af (by omega)
def gg(b c:Bool)(a:Int)(cl:Bool)(L:Nat):Int:=if b=false\/c=false then 1 else if a≠0 then a else if cl=false then 5 else if 20<=L then 2 else 0
theorem B8(wp:BL)(a b:Int)(k u:Int)(s:ByteArray)(i:Option Addr)(l j:Nat)(v h:Bool)(d:Int)(cl:Bool)(L:Nat)(w:World)(C:Int->Int->ByteArray->Option Addr->Nat->Nat->World->World->Prop)(N:World->Prop)(am:L<=1000)(S:Hid (∀W,Calls Tryz.prog 124 #[.int .i64 a] W λe w'=>e=.returned (.bool v)/\w'=W))(T:Hid (∀W,Calls Tryz.prog 124 #[.int .i64 b] W λe w'=>e=.returned (.bool h)/\w'=W))(Z:Hid (∀W,Below w.heap.size w W->Calls Tryz.prog 42 #[.agg #[.int .i64 k,.int .i64 u,.string s,.slice i l j]] W λe w'=>e=.returned (.int .i64 d)/\Below W.heap.size W w'))(aa:Hid (∀W,Below w.heap.size w W->Calls Tryz.prog 43 #[.agg #[.int .i64 k,.int .i64 u,.string s,.slice i l j]] W λe w'=>e=.returned (.bool cl)/\Below W.heap.size W w'))(ad:Hid (∀W,Below w.heap.size w W->Calls Tryz.prog 125 #[.pointer (some ⟨wp.b,wp.o,none⟩),.int .i64 a,.int .i64 b] W λe w'=>e=.returned (.int .i64 L)/\w'=W))(X:Hid (∀W,d=0->Below w.heap.size w W->Calls Tryz.prog 45 #[.agg #[.int .i64 k,.int .i64 u,.string s,.slice i l j]] W λe w'=>∃m n t p r q,e=.returned (.agg #[.int .i64 m,.int .i64 n,.string t,.slice p r q])/\Hid (C m n t p r q W w')))(U:Hid (∀m n t p r q W w1,gg v h d cl L=0->C m n t p r q W w1->Below w.heap.size w W->Calls Tryz.prog 126 #[.pointer (some ⟨wp.b,wp.o,none⟩),.agg #[.int .i64 a,.int .i64 b],.agg #[.int .i64 m,.int .i64 n,.string t,.slice p r q]] w1 λe w'=>e=.returned (.tuple #[])/\Hid (N w'))):Calls Tryz.prog 93 #[.pointer (some ⟨wp.b,wp.o,none⟩),.int .i64 a,.int .i64 b,.agg #[.int .i64 k,.int .i64 u,.string s,.slice i l j]] w λe w'=>e=.returned (.int .i64 (gg v h d cl L))/\(gg v h d cl L≠0->Below w.heap.size w w')/\(gg v h d cl L=0->N w'):=by
 have Q:Hid (∃g f,g=w.alloc (.cells #[.int .i64 k,.int .i64 u,.string s,.slice i l j] 30)/\f=w.heap.size):=⟨_,_,rfl,rfl⟩;go_enter Tryz.func93,Tryz.ntmps93;go_wp2_with fail;obtain⟨g,f,B,M⟩:=Q.out;rw[<-B,<-M];have x:Hid (Below w.heap.size w g):=by
  rw[B];exact(ah _ _).alloc (ag _) _
 have P:Hid (g.heap[f]?=some (.cells #[.int .i64 k,.int .i64 u,.string s,.slice i l j] 30)/\f<g.heap.size):=by
  rw[B,M];exact⟨ax w _,by simp⟩
 have I:Hid (∀W,Below g.heap.size g W->W.cell? ⟨f,0,none⟩=some (.int .i64 k)/\W.cell? ⟨f,1,none⟩=some (.int .i64 u)/\W.cell? ⟨f,2,none⟩=some (.string s)/\W.cell? ⟨f,3,none⟩=some (.slice i l j)):=by
  intro W aj;have c:=(aj.block f P.out.2).trans P.out.1;exact⟨ab c 0,ab c 1,ab c 2,ab c 3⟩
 clear B M Q;refine(S.out g).mono ?_;rintro e w1 ⟨rfl,rfl⟩;cases v
 ·go_wp2_with fail
  go_ret
  have e:gg false h d cl L=1:=by simp[gg]
  rw[e];exact⟨rfl,λ_=>x.out,λc=>by cases c⟩
 ·go_wp2_with fail;refine(T.out _).mono ?_;rintro e ao ⟨rfl,rfl⟩;cases h
  ·go_wp2_with fail
   go_ret
   have e:gg true false d cl L=1:=by simp[gg]
   rw[e];exact⟨rfl,λ_=>x.out,λc=>by cases c⟩
  ·obtain⟨D,E,F,G⟩:=I.out _ (ah _ _);go_wp2_with fail;refine(Z.out _ x.out).mono ?_;rintro e ap ⟨rfl,J⟩;have H:=ai J;have A:=ai (x.out.trans (J.mono x.out.size));clear J D E F G;by_cases z:d=0;rotate_left
   ·have an:¬(0:Int)=d:=λe=>z e.symm;go_wp2_with fail
    go_ret
    have e:gg true true d cl L=d:=by simp[gg,z]
    rw[e];exact⟨rfl,λ_=>A.out,λc=>absurd c z⟩
   ·obtain⟨D,E,F,G⟩:=I.out _ H.out;have al:=ai z;subst z;go_wp2_with fail;refine(aa.out _ A.out).mono ?_;rintro e aq ⟨rfl,K⟩;have V:=ai (H.out.trans (K.mono H.out.size));have y:=ai (A.out.trans (K.mono A.out.size));clear K D E F G;cases cl
    ·go_wp2_with fail
     go_ret
     have e:gg true true 0 false L=5:=by simp[gg]
     rw[e];exact⟨rfl,λ_=>y.out,λc=>by cases c⟩
    ·go_wp2_with fail;refine(ad.out _ y.out).mono ?_;rintro e ar ⟨rfl,rfl⟩;by_cases R:20<=L
     ·have af:(20:Int)<=(L:Int):=by omega
      go_wp2_with fail
      go_ret
      have e:gg true true 0 true L=2:=by simp[gg,R]
      rw[e];exact⟨rfl,λ_=>y.out,λc=>by cases c⟩
     ·have af:¬(20:Int)<=(L:Int):=by omega
      have O:Hid (gg true true 0 true L=0):=(show gg true true 0 true L=0 by simp[gg,R]);obtain⟨D,E,F,G⟩:=I.out _ V.out;go_wp2_with fail;refine(X.out _ (by simp) y.out).mono ?_;rintro e ak ⟨m,n,t,p,r,q,rfl,ae⟩;go_wp2_with fail;refine(U.out m n t p r q _ ak O.out ae.out y.out).mono ?_;rintro e au ⟨rfl,Y⟩;go_wp2_with fail
      go_ret
      rw[O.out];exact⟨rfl,λc=>absurd rfl c,λ_=>Y.out⟩
theorem B7{n:Nat}{x:Tm n}(a:bA n x=0):aB ⟨n,x⟩:=by
 rw[aJ];rw[<-iK]at a;unfold xu at a;split at a
 ·rename_i b;simpa using b
 ·cases a
variable {base n N:Nat} {wp:BL} {mo:Option Nat} {f:Int×Int->List (Tm (N+1))} {sl:Int×Int->Value} {w:World}
def I6(a:Int):Bool:=decide (1<=a) && decide (a<=99)
def kP(N:Nat)(a b:Int)(x:Tm (N+1))(L:Nat):Int:=gg (I6 a) (I6 b) (bA (N+1) x) (aF (N+1) x) L
def EY(base:Nat)(wp:BL)(mo:Option Nat)(n N:Nat)(f:Int×Int->List (Tm (N+1)))(sl:Int×Int->Value)(k:Int×Int)(x:Tm (N+1))(w w':World):Prop:=
 ∃a c d,aw (N+1) a (N+1) x=true/\gt base wp c (n+1) (N+1) (fT f k (f k++ [a])) d w'/\bf (qg wp mo sl) w w'/\(∀b,qg wp c d b->qg wp mo sl b\/w.heap.size<=b)/\In w'.heap.size w' (N+1) a/\ch (λb=>w.heap.size<=b/\¬qg wp c d b) (N+1) a
theorem GH(i:gt base wp mo n (N+1) f sl w){a b:Int}(p:I2 (a,b))(x:Tm (N+1))(m:In w.heap.size w (N+1) x)(D:(aq (N+1) x).length<=2097152)(H:n<999999)(G:(f (a,b)).length<=1000):Calls Tryz.prog 93 #[.pointer (some ⟨wp.b,wp.o,none⟩),.int .i64 a,.int .i64 b,dg (N+1) x] w λe w'=>e=.returned (.int .i64 (kP N a b x (f (a,b)).length))/\(kP N a b x (f (a,b)).length≠0->Below w.heap.size w w')/\(kP N a b x (f (a,b)).length=0->EY base wp mo n N f sl (a,b) x w w'):=by
 refine B8 wp a b x.1.1 x.1.2.1 x.1.2.2 x.2.1.1 x.2.2.length x.2.1.2 (I6 a) (I6 b) (bA (N+1) x) (aF (N+1) x) (f (a,b)).length w
  (λu v B y A z g w'=>∃c:Tm (N+1),(u=c.1.1/\v=c.1.2.1/\B=c.1.2.2/\y=c.2.1.1/\A=c.2.2.length/\z=c.2.1.2)/\Below g.heap.size g w'/\In w'.heap.size w' (N+1) c/\ch (λM=>g.heap.size<=M) (N+1) c/\aw (N+1) c (N+1) x=true)
  (λw'=>EY base wp mo n N f sl (a,b) x w w') G (λg=>CC a g) (λg=>CC b g) (λg d=>?_) (λg d=>?_) (λg d=>?_) (λg F d=>?_) ?_
 ·exact dL (N+1) x w.heap.size g (m.below d) d.size D
 ·exact gX (N+1) x w.heap.size g (m.below d) d.size
 ·exact EQ (i.later d) p
 ·refine(gz (N+1) x w.heap.size g (m.below d) d.size (B7 F)).mono ?_;rintro e w' ⟨c,rfl,I⟩;exact⟨c.1.1,c.1.2.1,c.1.2.2,c.2.1.1,c.2.2.length,c.2.1.2,rfl,⟨c,⟨rfl,rfl,rfl,rfl,rfl,rfl⟩,I.out⟩⟩
 ·rintro u v B y A z g P h ⟨c,⟨rfl,rfl,rfl,rfl,rfl,rfl⟩,E,q,r,J⟩ d;have l:Below w.heap.size w P:=d.trans (E.mono d.size);have C:(f (a,b)).length<1000:=by
   by_cases Q:20<=(f (a,b)).length
   ·exfalso;unfold gg at h;split at h
    ·cases h
    ·split at h
     ·contradiction
     ·split at h
      ·cases h
      ·first|cases h|(split at h<;>first|cases h|contradiction)
   ·omega
  refine(If (i.later l) p c H C).mono ?_;rintro e w' ⟨rfl,L,O,K,s,t⟩;refine⟨rfl,c,L,O,J,K,bf.trans (aC l _) s λ_ _ e=>e,λb j=>?_,?_,?_⟩
  ·rcases t b j with e|e
   ·exact ae e
   ·exact af (au l.size e)
  ·refine q.kee s (r.mono λb j k=>?_);have:=(i.lt b k).2;have:=d.size;omega
  ·refine(In.offB r q).mono λb j=>⟨au d.size j.1,λk=>?_⟩;rcases t b k with e|e
   ·have:=(i.lt b e).2;have:=d.size;omega
   ·omega
theorem Ey(wp:BL)(mo:Option Nat)(a b:Int)(w:World)(F:wp.b<w.heap.size)(y:Hid (w.cell? ⟨wp.b,wp.o,none⟩=some (.map mo)))(z:Hid (∀W,Below w.heap.size w W->(Instr.lookup 66 (.map mo) (.agg #[.int .i64 a,.int .i64 b]) false).run Tryz.prog W=.ok (.slice none 0 0) W)):Calls Tryz.prog 39 #[.pointer (some ⟨wp.b,wp.o,none⟩),.int .i64 a,.int .i64 b] w λe w'=>e=.returned (.tuple #[.agg #[.int .i64 0,.int .i64 0,.string ⟨#[]⟩,.slice none 0 0],.int .i64 4])/\Below w.heap.size w w':=by
 have t:=y.out;have s:Hid (∃wr c d,wr=(w.alloc (.cells #[.int .i64 0,.int .i64 0,.string ⟨#[]⟩,.slice none 0 0] 30)).alloc (.cells #[.int .i64 a,.int .i64 b] 155)/\c=w.heap.size/\d=w.heap.size+1):=⟨_,_,_,rfl,rfl,rfl⟩;go_enter Tryz.func39,Tryz.ntmps39;go_wp2_with fail;obtain⟨wr,c,d,f,l,m⟩:=s.out;rw[<-f,<-m,<-l];have E:wr.heap.size=w.heap.size+2:=by rw[f];simp
 have HB:Hid (Below w.heap.size w wr):=by
  rw[f];exact((ah _ _).alloc (ag _) _).alloc (by simp) _
 have A:Hid (wr.heap[c]?=some (.cells #[.int .i64 0,.int .i64 0,.string ⟨#[]⟩,.slice none 0 0] 30)):=by
  rw[f,l];exact(((ah _ _).alloc (ag _) _).block w.heap.size (by simp)).trans (ax w _)
 have B:Hid (wr.heap[d]?=some (.cells #[.int .i64 a,.int .i64 b] 155)):=by
  rw[f,m];have C:=ax (w.alloc (.cells #[.int .i64 0,.int .i64 0,.string ⟨#[]⟩,.slice none 0 0] 30)) (.cells #[.int .i64 a,.int .i64 b] 155);have e:(w.alloc (.cells #[.int .i64 0,.int .i64 0,.string ⟨#[]⟩,.slice none 0 0] 30)).heap.size=w.heap.size+1:=by simp
  rwa [e]at C
 have k:Hid (c<wr.heap.size/\d<wr.heap.size/\wp.b<wr.heap.size/\w.heap.size<=c/\w.heap.size<=d/\wp.b<w.heap.size):=(show _/\_ by omega);have r:Hid (∀W,Below wr.heap.size wr W->W.cell? ⟨wp.b,wp.o,none⟩=some (.map mo)/\W.cell? ⟨d,0,none⟩=some (.int .i64 a)/\W.cell? ⟨d,1,none⟩=some (.int .i64 b)):=by
  intro W j;have u:=(j.block d k.out.2.1).trans B.out;exact⟨((j.cell (p:=⟨wp.b,wp.o,none⟩) k.out.2.2.1).trans (HB.out.cell (p:=⟨wp.b,wp.o,none⟩) F)).trans t,ab u 0,ab u 1⟩
 have q:Hid (Below wr.heap.size wr wr.drew):=(ah _ _).drew;have n:Hid (∀W,Below wr.heap.size wr W->Below w.heap.size w W):=λW j=>HB.out.trans (j.mono HB.out.size);have O:=z.out _ (n.out _ q.out);obtain⟨P,Q,R⟩:=r.out wr (ah _ _);clear f l m s E t;go_region_held3 (λW=>W.cell? ⟨wp.b,wp.o,none⟩=some (.map mo)/\W.cell? ⟨d,0,none⟩=some (.int .i64 a)/\W.cell? ⟨d,1,none⟩=some (.int .i64 b)) (first|(go_keep;done)|exact r.out _ q.out) (fail);have g:=A.out;have G:wr.cell? ⟨c,0,none⟩=some (.int .i64 0):=ab g 0;have H:wr.cell? ⟨c,1,none⟩=some (.int .i64 0):=ab g 1;have I:wr.cell? ⟨c,2,none⟩=some (.string ⟨#[]⟩):=ab g 2;have J:wr.cell? ⟨c,3,none⟩=some (.slice none 0 0):=ab g 3;have h:∀x,wr.frozen? ⟨c,x,none⟩=false:=λx=>by simp[World.frozen?,g]
 have K:=h 0;have L:=h 1;have M:=h 2;have N:=h 3;clear h g;have i:=ai k.out.2.2.2.1;go_wp2_with fail;refine ao (v:=.tuple #[.agg #[.int .i64 0,.int .i64 0,.string ⟨#[]⟩,.slice none 0 0],.int .i64 4]) (by simp[results,Tryz.results39,go_sem,G,H,I,J]) rfl ⟨rfl,?_⟩;have D:=n.out _ (ah _ _);exact((((D.setCell i.out _).setCell i.out _).setCell i.out _).setCell i.out _).drew
theorem vG(wp:BL)(i g c m:Nat)(y0 y1:Int)(ys:ByteArray)(ya:Option Addr)(yl yc:Nat)(a b:Int)(w:World)(G:World->Prop)(R:World->World->Prop)(aV:wp.b<w.heap.size)(M:g<w.heap.size)(a6:i<w.heap.size)(aS:wp.b≠i)(aR:wp.b≠g)(aC:Hid (w.cell? ⟨wp.b,wp.o,none⟩=some (.map (some i))))(am:Hid (∀W,Below w.heap.size w W->(Instr.lookup 66 (.map (some i)) (.agg #[.int .i64 a,.int .i64 b]) false).run Tryz.prog W=.ok (.slice (some ⟨g,0,none⟩) (m+1) c) W))(aH:Hid (w.cell? ⟨g,0,none⟩=some (.int .i64 y0)/\w.cell? ⟨g,1,none⟩=some (.int .i64 y1)/\w.cell? ⟨g,2,none⟩=some (.string ys)/\w.cell? ⟨g,3,none⟩=some (.slice ya yl yc)))(aP:(m=0/\Hid (∀W,Below w.heap.size w W->∃w',(∀ty,(Builtin.delete_ #[66,155] ty #[.map (some i),.agg #[.int .i64 a,.int .i64 b]]).run Tryz.prog W=.ok (.tuple #[]) w')/\bf (λb=>b=i) W w'/\w'.heap.size=W.heap.size/\∀w2,Below w.heap.size w' w2->G w2))\/(1<=m/\m<=1000/\Hid (∀W,Below w.heap.size w W->Calls Tryz.prog 66 #[.slice (some ⟨g,0,none⟩) (m+1) c,.int .i64 0,.int .i64 1] W λe w'=>e=.returned (.slice (some ⟨g,0,none⟩) m c)/\Hid (W.grownBy w' (some g)/\R W w'))/\Hid (∀W H,R W H->Below w.heap.size w W->W.grownBy H (some g)->∃w',(Instr.mapUpdate 66 (.map (some i)) (.agg #[.int .i64 a,.int .i64 b]) (.slice (some ⟨g,0,none⟩) m c)).run Tryz.prog H=.ok () w'/\bf (λb=>b=i) H w'/\∀w2,Below w.heap.size w' w2->G w2))):Calls Tryz.prog 39 #[.pointer (some ⟨wp.b,wp.o,none⟩),.int .i64 a,.int .i64 b] w λe w'=>e=.returned (.tuple #[.agg #[.int .i64 y0,.int .i64 y1,.string ys,.slice ya yl yc],.int .i64 0])/\G w':=by
 have av:=aC.out;have ar:Hid (∃wr f h,wr=(w.alloc (.cells #[.int .i64 0,.int .i64 0,.string ⟨#[]⟩,.slice none 0 0] 30)).alloc (.cells #[.int .i64 a,.int .i64 b] 155)/\f=w.heap.size/\h=w.heap.size+1):=⟨_,_,_,rfl,rfl,rfl⟩;go_enter Tryz.func39,Tryz.ntmps39;go_wp2_with fail;obtain⟨wr,f,h,u,S,T⟩:=ar.out;rw[<-u,<-T,<-S];have aU:wr.heap.size=w.heap.size+2:=by rw[u];simp
 have HB:Hid (Below w.heap.size w wr):=by
  rw[u];exact((ah _ _).alloc (ag _) _).alloc (by simp) _
 have aF:Hid (wr.heap[f]?=some (.cells #[.int .i64 0,.int .i64 0,.string ⟨#[]⟩,.slice none 0 0] 30)):=by
  rw[u,S];exact(((ah _ _).alloc (ag _) _).block w.heap.size (by simp)).trans (ax w _)
 have aq:Hid (wr.heap[h]?=some (.cells #[.int .i64 a,.int .i64 b] 155)):=by
  rw[u,T];have J:=ax (w.alloc (.cells #[.int .i64 0,.int .i64 0,.string ⟨#[]⟩,.slice none 0 0] 30)) (.cells #[.int .i64 a,.int .i64 b] 155);have e:(w.alloc (.cells #[.int .i64 0,.int .i64 0,.string ⟨#[]⟩,.slice none 0 0] 30)).heap.size=w.heap.size+1:=by simp
  rwa [e]at J
 have x:Hid (f<wr.heap.size/\h<wr.heap.size/\wp.b<wr.heap.size/\w.heap.size<=f/\w.heap.size<=h/\wp.b<w.heap.size):=(show _/\_ by omega);have Q:Hid (∀W,Below wr.heap.size wr W->W.cell? ⟨wp.b,wp.o,none⟩=some (.map (some i))/\W.cell? ⟨h,0,none⟩=some (.int .i64 a)/\W.cell? ⟨h,1,none⟩=some (.int .i64 b)):=by
  intro W s;have C:=(s.block h x.out.2.1).trans aq.out;exact⟨((s.cell (p:=⟨wp.b,wp.o,none⟩) x.out.2.2.1).trans (HB.out.cell (p:=⟨wp.b,wp.o,none⟩) aV)).trans av,ab C 0,ab C 1⟩
 have al:Hid (Below wr.heap.size wr wr.drew):=(ah _ _).drew;have ak:Hid (∀W,Below wr.heap.size wr W->Below w.heap.size w W):=λW s=>HB.out.trans (s.mono HB.out.size);have aQ:=am.out _ (ak.out _ al.out);obtain⟨az,aA,aB⟩:=Q.out wr (ah _ _);clear u S T ar aU av;go_region_held3 (λW=>W.cell? ⟨wp.b,wp.o,none⟩=some (.map (some i))/\W.cell? ⟨h,0,none⟩=some (.int .i64 a)/\W.cell? ⟨h,1,none⟩=some (.int .i64 b)) (first|(go_keep;done)|exact Q.out _ al.out) (fail);obtain⟨U,V,X,Y⟩:=aH.out;have B:=aj HB.out;replace U:=(B _ _ M).trans U;replace V:=(B _ _ M).trans V;replace X:=(B _ _ M).trans X;replace Y:=(B _ _ M).trans Y;clear B;rcases aP with⟨rfl,O⟩|⟨a4,a5,O,aG⟩
 case' inl=>simp only[cU]at am
 case' inr=>
  have ba:¬((m:Int)+1=0):=by omega
  have bb:¬((m:Int)+1=1):=by omega
  have bc:(0:Int)<(m:Int)+1:=by omega
 all_goals
  have au:Hid (∃j q,(j=(wr.alloc (.cells #[.int .i64 y0,.int .i64 y1,.string ys,.slice ya yl yc] 30)).drew/\q=wr.heap.size)/\Below wr.heap.size wr j/\j.heap[q]?=some (.cells #[.int .i64 y0,.int .i64 y1,.string ys,.slice ya yl yc] 30)/\q<j.heap.size/\wr.heap.size<=q):=⟨_,_,⟨rfl,rfl⟩,(show Below _ _ _ by go_grown),ax wr _,by simp[World.drew],ag _⟩;go_wp2_with fail;obtain⟨j,q,⟨ay,aw⟩,n⟩:=au.out;rw[<-ay,<-aw];replace n:=ai n;clear ay aw au az aA aB aQ U V X Y;have af:=ai (ak.out _ n.out.1);have y:Hid (∀W:World,(∀b,b<j.heap.size->b≠i->b≠g->W.heap[b]?=j.heap[b]?)->(W.cell? ⟨wp.b,wp.o,none⟩=some (.map (some i))/\W.cell? ⟨h,0,none⟩=some (.int .i64 a)/\W.cell? ⟨h,1,none⟩=some (.int .i64 b))/\(W.cell? ⟨q,0,none⟩=some (.int .i64 y0)/\W.cell? ⟨q,1,none⟩=some (.int .i64 y1)/\W.cell? ⟨q,2,none⟩=some (.string ys)/\W.cell? ⟨q,3,none⟩=some (.slice ya yl yc))/\(W.heap[f]?=some (.cells #[.int .i64 0,.int .i64 0,.string ⟨#[]⟩,.slice none 0 0] 30))):=by
   intro W s;obtain⟨aW,aX,bd,be,bg,bh⟩:=x.out;have a8:=n.out.1.size;have a7:=n.out.2.2.2;have C:=(s h (by omega) (by omega) (by omega)).trans ((n.out.1.block h aX).trans aq.out);have aI:=(s f (by omega) (by omega) (by omega)).trans ((n.out.1.block f aW).trans aF.out);have I:=(s q n.out.2.2.1 (by omega) (by omega)).trans n.out.2.1;have aJ:=s wp.b (by omega) aS aR;refine⟨⟨?_,ab C 0,ab C 1⟩,⟨ab I 0,ab I 1,ab I 2,ab I 3⟩,aI⟩;have J:=(Q.out j n.out.1).1;simp only[World.cell?,aJ]at J ⊢;exact J
  have aD:Hid (Below j.heap.size j j.drew):=(ah _ _).drew;have N:=ai (af.out.trans (aD.out.mono af.out.size));obtain⟨⟨az,aA,aB⟩,_,_⟩:=y.out j (λ_ _ _ _=>rfl);have an:=ai (y.out j.drew (λ_ _ _ _=>rfl)).1
 ·go_region_held3 (λW=>W.cell? ⟨wp.b,wp.o,none⟩=some (.map (some i))/\W.cell? ⟨h,0,none⟩=some (.int .i64 a)/\W.cell? ⟨h,1,none⟩=some (.int .i64 b)) (first|(go_keep;done)|exact an.out|exact aE.out.1|exact z.out.1)
    ((first|(go_at_call 66;refine(O.out _ N.out).mono ?_;rintro e a2 ⟨rfl,A⟩;obtain⟨d,a9,E,D⟩:=aG.out _ _ A.out.2 N.out A.out.1;have aE:=ai (y.out a2 (λb t K L=>A.out.1.block b t (λe=>L (ap e))));have z:=ai (y.out d (λb t K L=>(E.block b (aL t A.out.1.size) K).trans (A.out.1.block b t (λe=>L (ap e)))));have P:=ai D;clear E D)))
  obtain⟨_,⟨aY,aZ,a0,a1⟩,k⟩:=z.out;have Z:d.cell? ⟨f,0,none⟩=some (.int .i64 0):=ab k 0;have aa:d.cell? ⟨f,1,none⟩=some (.int .i64 0):=ab k 1;have ad:d.cell? ⟨f,2,none⟩=some (.string ⟨#[]⟩):=ab k 2;have ae:d.cell? ⟨f,3,none⟩=some (.slice none 0 0):=ab k 3;have l:∀F,d.frozen? ⟨f,F,none⟩=false:=λF=>by simp[World.frozen?,k]
  have aK:=l 0;have aM:=l 1;have aN:=l 2;have aO:=l 3;have r:=ai x.out.2.2.2.1;clear l k;go_wp2_with fail;refine ao (v:=.tuple #[.agg #[.int .i64 y0,.int .i64 y1,.string ys,.slice ya yl yc],.int .i64 0]) (by simp[results,Tryz.results39,go_sem,Z,aa,ad,ae]) rfl ⟨rfl,?_⟩;exact P.out _ (((((ah w.heap.size d).setCell r.out _).setCell r.out _).setCell r.out _).setCell r.out _)
 ·obtain⟨d,a3,E,aT,D⟩:∃d,(∀ty,(Builtin.delete_ #[66,155] ty #[.map (some i),.agg #[.int .i64 a,.int .i64 b]]).run Tryz.prog j.drew=.ok (.tuple #[]) d)/\bf (λb=>b=i) j.drew d/\d.heap.size=j.drew.heap.size/\∀w2,Below w.heap.size d w2->G w2:=O.out _ N.out;have z:=ai (y.out d (λb t K L=>E.block b t K));have P:=ai D;clear E aT D;go_region_held3 (λW=>W.cell? ⟨wp.b,wp.o,none⟩=some (.map (some i))/\W.cell? ⟨h,0,none⟩=some (.int .i64 a)/\W.cell? ⟨h,1,none⟩=some (.int .i64 b)) (first|(go_keep;done)|exact an.out|exact z.out.1) (fail);obtain⟨_,⟨aY,aZ,a0,a1⟩,k⟩:=z.out;have Z:d.cell? ⟨f,0,none⟩=some (.int .i64 0):=ab k 0;have aa:d.cell? ⟨f,1,none⟩=some (.int .i64 0):=ab k 1;have ad:d.cell? ⟨f,2,none⟩=some (.string ⟨#[]⟩):=ab k 2;have ae:d.cell? ⟨f,3,none⟩=some (.slice none 0 0):=ab k 3;have l:∀F,d.frozen? ⟨f,F,none⟩=false:=λF=>by simp[World.frozen?,k]
  have aK:=l 0;have aM:=l 1;have aN:=l 2;have aO:=l 3;have r:=ai x.out.2.2.2.1;clear l k;go_wp2_with fail;refine ao (v:=.tuple #[.agg #[.int .i64 y0,.int .i64 y1,.string ys,.slice ya yl yc],.int .i64 0]) (by simp[results,Tryz.results39,go_sem,Z,aa,ad,ae]) rfl ⟨rfl,?_⟩;exact P.out _ (((((ah w.heap.size d).setCell r.out _).setCell r.out _).setCell r.out _).setCell r.out _)
variable {base n N:Nat} {wp:BL} {mo:Option Nat} {f:Int×Int->List (Tm (N+1))} {sl:Int×Int->Value} {w:World}
def kR(base:Nat)(wp:BL)(mo:Option Nat)(n N:Nat)(f:Int×Int->List (Tm (N+1)))(sl:Int×Int->Value)(k:Int×Int)(l:List (Tm (N+1)))(w w':World):Prop:=
 ∃a,gt base wp mo (n+1) (N+1) (fT f k l) a w'/\bf (qg wp mo sl) w w'/\∀b,qg wp mo a b->qg wp mo sl b
theorem kR.later{k:Int×Int}{l:List (Tm (N+1))}{w' w2:World}(h:gt base wp mo n (N+1) f sl w)(g:kR base wp mo n N f sl k l w w')(a:Below w.heap.size w' w2):kR base wp mo n N f sl k l w w2:=by
 obtain⟨o,i,j,d⟩:=g;have e:bf (λb=>w.heap.size<=b) w' w2:=⟨a.os,a.tape,a.output,a.size,λb _ c=>a.block b (by omega)⟩;refine⟨o,i.kee e λb c m=>?_,bf.trans j e λb c m=>?_,d⟩
 ·have:=(h.lt b (d b c)).2;omega
 ·omega
theorem Ej{base g c L:Nat}{y:Tm (N+1)}{l:List (Tm (N+1))}(b:w.ownsRow base 30 4 (.slice (some ⟨g,0,none⟩) L c) L (dd (N+1) (y::l))):w.cell? ⟨g,0,none⟩=some (.int .i64 y.1.1)/\w.cell? ⟨g,1,none⟩=some (.int .i64 y.1.2.1)/\w.cell? ⟨g,2,none⟩=some (.string y.1.2.2)/\w.cell? ⟨g,3,none⟩=some (.slice y.2.1.1 y.2.2.length y.2.1.2):=by
 have a:=Gk (l:=(y::l).map (iv (N+1))) b 0 (iv (N+1) y) (by simp);simp only[Nat.zero_mul,cU]at a;exact a
theorem GZ(d:gt base wp mo n (N+1) f sl w){a b:Int}(m:I2 (a,b))(am:n<999999)(V:(f (a,b)).length<=1000):Calls Tryz.prog 39 #[.pointer (some ⟨wp.b,wp.o,none⟩),.int .i64 a,.int .i64 b] w λe w'=> (f (a,b)=[]->e=.returned (.tuple #[.agg #[.int .i64 0,.int .i64 0,.string ⟨#[]⟩,.slice none 0 0],.int .i64 4])/\Below w.heap.size w w')/\ ∀y l,f (a,b)=y::l->e=.returned (.tuple #[dg (N+1) y,.int .i64 0])/\kR base wp mo n N f sl (a,b) l w w':=by
 have r:=d.lt wp.b (ae rfl);have z:∀i,Below w.heap.size w i->(Instr.lookup 66 (.map mo) (.agg #[.int .i64 a,.int .i64 b]) false).run Tryz.prog i=.ok (sl (a,b)) i:=λi g=>(d.later g).look m;cases k:f (a,b)with
 | nil=>
  have t:sl (a,b)=.slice none 0 0:=by
   rcases d.2.2 with⟨_,_,rfl⟩|⟨h,rfl,s⟩
   ·rfl
   ·obtain⟨Q,R,G,H⟩:=s.map;have ab:has Q (kl (a,b))=false:=by
     cases hh:has Q (kl (a,b))
     ·rfl
     ·obtain⟨u,x,Z,T⟩:=(H _).1 hh;rw[<-oM m x Z]at T;exact absurd k T
    have:=G (a,b) m;rw[atKey_of_not_has ab]at this;injection this with this;exact this.symm
  rw[t]at z;refine(Ey wp mo a b w r.2 d.cell.1 z).mono ?_;rintro e w' ⟨rfl,c⟩;exact⟨λ_=>⟨rfl,c⟩,λy l e=>by cases e⟩
 | cons y l=>
  rcases d.2.2 with⟨_,rfl,_⟩|⟨h,rfl,s⟩
  ·cases k
  ·obtain⟨sa,sc,t,A⟩:=(s.row (a,b) m).at;rw[k]at t A V;have W:=s.lt h (ae rfl);obtain⟨j,rfl⟩:∃j,sa=some ⟨j,0,none⟩:=by
    rcases A.2 with⟨e,_⟩|⟨j,cap,al,e,_⟩
    ·simp at e
    ·simp at e;exact⟨j,e.1⟩
   have U:=A.lt j rfl;have O:wp.b≠j:=λe=>xG d m (by rw[t,e];rfl);have Y:=Ej A;rw[t]at z;cases hl0:l with
   | nil=>
    subst hl0;refine(vG wp h j sc 0 y.1.1 y.1.2.1 y.1.2.2 y.2.1.1 y.2.2.length y.2.1.2 a b w (λw'=>kR base wp (some h) n N f sl (a,b) [] w w') (λ_ _=>True) r.2 U.2 W.2 (um d) O d.cell.1 z Y (ae ⟨rfl,λi g=>?_⟩)).mono ?_
    ·have I:GM base h n (N+1) f sl i:=s.kee (aC g λ_=>False) λ_ _ k=>k;obtain⟨v,P,J,p,X⟩:=I.drop m 3;have ad:∀ty,(Builtin.delete_ #[66,155] ty #[.map (some h),.agg #[.int .i64 a,.int .i64 b]]).run Tryz.prog i=.ok (.tuple #[]) v:=λty=>P;refine⟨v,ad,p,X,λaj K=>?_⟩;have q:kR base wp (some h) n N f sl (a,b) [] w v:=by
      refine⟨_,⟨d.1,(d.2.1.kept (g.block wp.b r.2)).kept (p.block wp.b (aL r.2 g.size) (um d)),af ⟨h,rfl,J.mono (fw n)⟩⟩,bf.trans (aC g _) p λC _ e=>af (ae (by rw[e])),λC c=>?_⟩;rcases c with c|c|⟨u,x,c⟩
      ·exact ae c
      ·exact af (ae c)
      ·by_cases e:u=(a,b)
       ·rw[e,cr]at c;simp[lw,Value.ownBlock]at c
       ·rw[bC _ _ e]at c;exact af (af ⟨u,x,c⟩)
     exact kR.later d q K
    ·rintro e w' ⟨rfl,q⟩;refine⟨λe=>(by cases e),λak ai e=>?_⟩;injection e with E F;subst E F;exact⟨rfl,q⟩
   | cons y2 ao=>
    rw[<-hl0];have M:l≠[]:=by rw[hl0];simp
    have aa:1<=l.length:=List.length_pos_iff.2 M;refine(vG wp h j sc l.length y.1.1 y.1.2.1 y.1.2.2 y.2.1.1 y.2.2.length y.2.1.2 a b w (λw'=>kR base wp (some h) n N f sl (a,b) l w w') (λi w'=>mG base (N+1) (.slice (some ⟨j,0,none⟩) l.length sc) l w'/\w'.heap.size=i.heap.size) r.2 U.2 W.2 (um d) O d.cell.1 z Y (af ⟨aa,by simp at V;omega,λi g=>?_,λi D S g L=>?_⟩)).mono ?_
    ·refine(AI base j sc l.length y l i rfl (aT A (aC g λ_=>False) λ_ _ k=>k) M).mono ?_;rintro e w' ⟨rfl,R,G,H⟩;exact⟨rfl,G,R,H⟩
    ·have I:GM base h n (N+1) f sl i:=s.kee (aC g λ_=>False) λ_ _ k=>k;have B:(sl (a,b)).ownBlock=some j:=by rw[t];rfl
     obtain⟨v,P,J,p,X⟩:=I.store m (w1:=D) ((dS L).mono λb _ e=>B.trans e) M S.1 (λb c=>ae (B.trans c)) (by omega);refine⟨v,P,p,λaj K=>?_⟩;have ah:bf (qg wp (some h) sl) w D:=bf.trans (aC g _) (dS L) λC _ e=>af (af ⟨(a,b),m,B.trans e⟩);have ag:D.heap[wp.b]?=w.heap[wp.b]? :=(L.block wp.b (aL r.2 g.size) (λe=>O (ap e))).trans (g.block wp.b r.2);have an:=g.size;have q:kR base wp (some h) n N f sl (a,b) l w v:=by
      refine⟨_,⟨d.1,(d.2.1.kept ag).kept (p.block wp.b (by rw[S.2];omega) (um d)),af ⟨h,rfl,J⟩⟩,bf.trans ah p λC _ e=>af (ae (by rw[e])),λC c=>?_⟩;rcases c with c|c|⟨u,x,c⟩
      ·exact ae c
      ·exact af (ae c)
      ·by_cases e:u=(a,b)
       ·rw[e,cr]at c;exact af (af ⟨(a,b),m,B.trans c⟩)
       ·rw[bC _ _ e]at c;exact af (af ⟨u,x,c⟩)
     exact kR.later d q K
    ·rintro e w' ⟨rfl,q⟩;refine⟨λe=>(by cases e),λak ai e=>?_⟩;injection e with E F;subst E F;exact⟨rfl,q⟩
end Go.Proofs.YtnidfceinoiboaaGreat
