/- What is proved here: plain facts and contracts that the claimed theorem stands on. No condition but those that each names. -/
import Derived.Test.YtckamaoibonjcaaGreatG28
namespace Go.Proofs.YtckamaoibonjcaaGreat
open Go.RowKit Go.Maps
set_option maxRecDepth 100000
set_option maxHeartbeats 2000000
variable {base n N:Nat} {wp:BL} {mo:Option Nat} {f:Int×Int->List (Tm N)} {sl:Int×Int->Value} {w:World}
def Mz(base:Nat)(wp:BL)(mo:Option Nat)(n N:Nat)(f:Int×Int->List (Tm N))(sl:Int×Int->Value)(k:Int×Int)(l:List (Tm N))(w w':World):Prop:=
 ∃a c,gS base wp a (n+1) N (gK f k l) c w'/\bq (ri wp mo sl) w w'/\∀b,ri wp a c b->ri wp mo sl b\/w.heap.size<=b
theorem Fz:(Tryz.prog.info? 30).map (λi=>(i.zero,i.size,i.bytes))=some (some (.agg #[ab 0,ab 0,af ⟨#[]⟩,ae none 0 0]),4,56):=by kernel_rfl
theorem KP(a:Nat)(W:World):(binOp .eql 63 (.map (some a)) (.map none)).run Tryz.prog W=.ok (.bool false) W:=by kernel_rfl
theorem KO(W:World):(binOp .eql 63 (.map none) (.map none)).run Tryz.prog W=.ok (.bool true) W:=by kernel_rfl
theorem eX{S:Nat->Prop}{W a:World}(c:bq S W a){b:Nat}(e:b<W.heap.size)(d:¬S b):∀o v,W.cell? ⟨b,o,none⟩=some v->a.cell? ⟨b,o,none⟩=some v:=λo _ f=>(c.cell o e d).trans f
theorem DP(wp:BL)(f:Nat)(j k:Int)(y0 y1:Int)(ys:ByteArray)(ya:Option Addr)(yl yc L sc:Nat)(sa:Option Addr)(xs:List Value)(base:Nat)(w wr:World)(aC:World->Nat->World->Prop)(au:World->Prop)(bh:L<1000)(bj:base<=w.heap.size)(ar:wp.b<w.heap.size)(a8:(f<w.heap.size/\wp.b≠f/\wr=(w.alloc (.cells #[ab j,ab k] 164)).alloc (.cells #[ab y0,ab y1,af ys,ae ya yl yc] 30)/\(∀b,(Value.slice sa L sc).ownBlock=some b->b<w.heap.size/\b≠wp.b)/\Hid (w.cell? ⟨wp.b,wp.o,none⟩=some (.map (some f))))\/(f=w.heap.size+1+1/\wr=(((w.alloc (.cells #[ab j,ab k] 164)).alloc (.cells #[ab y0,ab y1,af ys,ae ya yl yc] 30)).alloc (.map #[] 0)).setCell ⟨wp.b,wp.o,none⟩ (.map (some f))/\(∀b,(Value.slice sa L sc).ownBlock=some b->b<w.heap.size/\b≠wp.b)/\Hid (sN wp none w)))(aZ:Hid (∀W,bq (λb=>b=f) wr W->W.ownsRow base 30 4 (ae sa L sc) L xs))(aR:Hid (∀W,aj wr W->∃(A:Nat)(d:World),(Instr.mapEntry 63 (.map (some f)) (pk (j,k))).run Tryz.prog W=.ok (.tuple #[ae sa L sc,goInt A]) d/\(bq (λb=>b=f) W d/\d.heap.size=W.heap.size/\aC W A d)))(a0:Hid (∀W A d ad i g c,aC W A d->aj wr W->bq (λb=>b=f) W d->d.heap.size=W.heap.size->aj d ad->ad.grownBy i (Value.slice sa L sc).ownBlock->i.ownsRow base 30 4 (ae (some ⟨g,0,none⟩) (L+1) c) (L+1) (xs++ [ab y0,ab y1,af ys,ae ya yl yc])->((Value.slice sa L sc).ownBlock=some g\/g=ad.heap.size)-> ∃m,(Instr.entryStore 63 (.map (some f)) (goInt A) (ae (some ⟨g,0,none⟩) (L+1) c)).run Tryz.prog i=.ok () m/\(au m/\bq (λb=>b=f) i m/\m.heap.size=i.heap.size))):am 145 #[.pointer (some ⟨wp.b,wp.o,none⟩),.agg #[ab j,ab k],.agg #[ab y0,ab y1,af ys,ae ya yl yc]] w λe w'=>e=.returned (.tuple #[])/\au w':=by
 obtain⟨E,aH,aO,aP,aQ⟩:=bS Fz;have N:Hid (Tryz.prog.info? 30=some E/\E.zero=some (.agg #[ab 0,ab 0,af ⟨#[]⟩,ae none 0 0])/\E.size=4/\E.bytes=56):=⟨aH,aO,aP,aQ⟩;clear aH aO aP aQ;rcases a8 with⟨an,aq,n,U,B⟩|⟨an,n,U,B⟩
 case' inl=>
  have ag:=B.out;have aS:=KP f;have P:Hid (∃h a,h=w.heap.size/\a=w.heap.size+1):=⟨_,_,rfl,rfl⟩;go_enter Tryz.func145,Tryz.ntmps145;go_wp2_with fail;obtain⟨h,a,y,z⟩:=P.out;rw[<-n,<-z,<-y];have aN:wr.heap.size=w.heap.size+2:=by rw[n];simp
  have av:Hid (aj w wr):=by
   rw[n];exact((ap _ _).alloc (ak _) _).alloc (by simp) _
  have Z:Hid (wr.heap[h]?=some (.cells #[ab j,ab k] 164)):=by
   rw[n,y];exact(((ap _ _).alloc (ak _) _).block w.heap.size (by simp)).trans (aB w _)
  have aa:Hid (wr.heap[a]?=some (.cells #[ab y0,ab y1,af ys,ae ya yl yc] 30)):=by
   rw[n,z];have u:=aB (w.alloc (.cells #[ab j,ab k] 164)) (.cells #[ab y0,ab y1,af ys,ae ya yl yc] 30);have e:(w.alloc (.cells #[ab j,ab k] 164)).heap.size=w.heap.size+1:=by simp
   rwa [e]at u
  have X:Hid (wr.cell? ⟨wp.b,wp.o,none⟩=some (.map (some f))):=(av.out.cell (p:=⟨wp.b,wp.o,none⟩) ar).trans ag;clear av
 case' inr=>
  have ag:w.cell? ⟨wp.b,wp.o,none⟩=some (.map none):=B.out.cell.1;have ah:sN wp none (((w.alloc (.cells #[ab j,ab k] 164)).alloc (.cells #[ab y0,ab y1,af ys,ae ya yl yc] 30)).alloc (.map #[] 0)):=B.out.kept (((((ap w.heap.size w).alloc (ak _) _).alloc (by simp) _).alloc (by simp;omega) _).block wp.b ar);have bf:(((w.alloc (.cells #[ab j,ab k] 164)).alloc (.cells #[ab y0,ab y1,af ys,ae ya yl yc] 30)).alloc (.map #[] 0)).frozen? ⟨wp.b,wp.o,none⟩=false:=ah.cell.2 _;have bg:(((w.alloc (.cells #[ab j,ab k] 164)).alloc (.cells #[ab y0,ab y1,af ys,ae ya yl yc] 30)).alloc (.map #[] 0)).cell? ⟨wp.b,wp.o,none⟩=some (.map none):=ah.cell.1;clear ah;have aq:wp.b≠f:=by omega
  have aS:=KO;have bk:= @run_makeMap Tryz.prog;have P:Hid (∃h a,h=w.heap.size/\a=w.heap.size+1):=⟨_,_,rfl,rfl⟩;go_enter Tryz.func145,Tryz.ntmps145;go_wp2_with fail;obtain⟨h,a,y,z⟩:=P.out;rw[<-an,<-n,<-z,<-y];have aN:wr.heap.size=w.heap.size+3:=by rw[n];simp[World.setCell]
  have ai:∀b,b≠wp.b->wr.heap[b]?=(((w.alloc (.cells #[ab j,ab k] 164)).alloc (.cells #[ab y0,ab y1,af ys,ae ya yl yc] 30)).alloc (.map #[] 0)).heap[b]? :=λb D=>by
   rw[n];have:wp.b≠b:=λe=>D e.symm;simp[World.setCell,bG,this]
  have Z:Hid (wr.heap[h]?=some (.cells #[ab j,ab k] 164)):=by
   rw[ai h (by omega),y];exact((((ap _ _).alloc (ak _) _).alloc (by simp) _).block w.heap.size (by simp)).trans (aB w _)
  have aa:Hid (wr.heap[a]?=some (.cells #[ab y0,ab y1,af ys,ae ya yl yc] 30)):=by
   rw[ai a (by omega),z];have u:=aB (w.alloc (.cells #[ab j,ab k] 164)) (.cells #[ab y0,ab y1,af ys,ae ya yl yc] 30);have e:(w.alloc (.cells #[ab j,ab k] 164)).heap.size=w.heap.size+1:=by simp
   rw[e]at u;exact(((ap _ _).alloc (ak _) _).block (w.heap.size+1) (by simp)).trans u
  have X:Hid (wr.cell? ⟨wp.b,wp.o,none⟩=some (.map (some f))):=by
   rw[n];exact(sN.set (mo':=some f) (B.out.kept (((((ap w.heap.size w).alloc (ak _) (.cells #[ab j,ab k] 164)).alloc (by simp) (.cells #[ab y0,ab y1,af ys,ae ya yl yc] 30)).alloc (by simp;omega) (.map #[] 0)).block wp.b ar))).cell.1
  clear ai
 all_goals
  have aJ:h<wr.heap.size:=by omega
  have aK:a<wr.heap.size:=by omega
  have aL:wp.b<wr.heap.size:=by omega
  have ba:f<wr.heap.size:=by omega
  have bi:base<=wr.heap.size:=by omega
  have T:h≠f:=by omega
  have x:a≠f:=by omega
  have V:∀b,(Value.slice sa L sc).ownBlock=some b->b≠h/\b≠a/\b≠wp.b:=λb D=>⟨by have:=(U b D).1;omega,by have:=(U b D).1;omega,(U b D).2⟩;have O:Hid (∀W,aj wr W->W.cell? ⟨wp.b,wp.o,none⟩=some (.map (some f))/\(W.cell? ⟨h,0,none⟩=some (ab j)/\W.cell? ⟨h,1,none⟩=some (ab k))/\(W.cell? ⟨a,0,none⟩=some (ab y0)/\W.cell? ⟨a,1,none⟩=some (ab y1)/\W.cell? ⟨a,2,none⟩=some (af ys)/\W.cell? ⟨a,3,none⟩=some (ae ya yl yc))):=by
   intro W q;have aE:=(q.block h aJ).trans Z.out;have R:=(q.block a aK).trans aa.out;exact⟨(q.cell (p:=⟨wp.b,wp.o,none⟩) aL).trans X.out,⟨by simp[World.cell?,aE],by simp[World.cell?,aE]⟩,by simp[World.cell?,R],by simp[World.cell?,R],by simp[World.cell?,R],by simp[World.cell?,R]⟩
  have Y:Hid (∀C W d,bq C W d->wr.heap.size<=W.heap.size->¬C wp.b->¬C h->¬C a->(W.cell? ⟨wp.b,wp.o,none⟩=some (.map (some f))/\(W.cell? ⟨h,0,none⟩=some (ab j)/\W.cell? ⟨h,1,none⟩=some (ab k))/\(W.cell? ⟨a,0,none⟩=some (ab y0)/\W.cell? ⟨a,1,none⟩=some (ab y1)/\W.cell? ⟨a,2,none⟩=some (af ys)/\W.cell? ⟨a,3,none⟩=some (ae ya yl yc)))->
    d.cell? ⟨wp.b,wp.o,none⟩=some (.map (some f))/\(d.cell? ⟨h,0,none⟩=some (ab j)/\d.cell? ⟨h,1,none⟩=some (ab k))/\(d.cell? ⟨a,0,none⟩=some (ab y0)/\d.cell? ⟨a,1,none⟩=some (ab y1)/\d.cell? ⟨a,2,none⟩=some (af ys)/\d.cell? ⟨a,3,none⟩=some (ae ya yl yc))):=by
   rintro C W d l bl bc bd be ⟨F,⟨G,H⟩,I,J,K,M⟩;have a3:=eX l (b:=wp.b) (by omega) bc;have aD:=eX l (b:=h) (by omega) bd;have Q:=eX l (b:=a) (by omega) be;exact⟨a3 _ _ F,⟨aD _ _ G,aD _ _ H⟩,Q _ _ I,Q _ _ J,Q _ _ K,Q _ _ M⟩
  have ax:Hid (∀W d,aj wr W->bq (λb=>b=f) W d->d.cell? ⟨wp.b,wp.o,none⟩=some (.map (some f))/\(d.cell? ⟨h,0,none⟩=some (ab j)/\d.cell? ⟨h,1,none⟩=some (ab k))/\(d.cell? ⟨a,0,none⟩=some (ab y0)/\d.cell? ⟨a,1,none⟩=some (ab y1)/\d.cell? ⟨a,2,none⟩=some (af ys)/\d.cell? ⟨a,3,none⟩=some (ae ya yl yc))):=
   λW d q l=>Y.out _ W d l q.size aq T x (O.out W q)
  have aY:Hid (∀W d i,aj wr W->bq (λb=>b=f) W d->d.grownBy i (Value.slice sa L sc).ownBlock->i.cell? ⟨wp.b,wp.o,none⟩=some (.map (some f))/\(i.cell? ⟨h,0,none⟩=some (ab j)/\i.cell? ⟨h,1,none⟩=some (ab k))/\(i.cell? ⟨a,0,none⟩=some (ab y0)/\i.cell? ⟨a,1,none⟩=some (ab y1)/\i.cell? ⟨a,2,none⟩=some (af ys)/\i.cell? ⟨a,3,none⟩=some (ae ya yl yc))):=
   λW d i q l a9=>Y.out _ d i (dU a9) (ay q.size l.size) (λe=>(V _ e).2.2 rfl) (λe=>(V _ e).1 rfl) (λe=>(V _ e).2.1 rfl) (ax.out W d q l)
  have r:Hid (aj wr (wr.alloc (.cells #[ab y0,ab y1,af ys,ae ya yl yc] 30)).drew):=(show Below _ _ _ by go_grown);have aA:Hid ((wr.alloc (.cells #[ab y0,ab y1,af ys,ae ya yl yc] 30)).drew.heap.size=wr.heap.size+1):=(show _=_ by simp[World.drew]);have aT:Hid (∀d,bq (λb=>b=f) (wr.alloc (.cells #[ab y0,ab y1,af ys,ae ya yl yc] 30)).drew d->bq (λb=>b=f) wr d):=λd l=>bq.trans (aI r.out _) l λ_ _ e=>e
  have aU:Hid (∀d,bq (λb=>b=f) (wr.alloc (.cells #[ab y0,ab y1,af ys,ae ya yl yc] 30)).drew d->d.heap[wr.heap.size]?=some (.cells #[ab y0,ab y1,af ys,ae ya yl yc] 30)):=
   λd l=>(l.block wr.heap.size (by rw[aA.out];omega) (by omega)).trans (aB wr _)
  have aX:Hid (∀i m,(i.cell? ⟨wp.b,wp.o,none⟩=some (.map (some f))/\(i.cell? ⟨h,0,none⟩=some (ab j)/\i.cell? ⟨h,1,none⟩=some (ab k))/\(i.cell? ⟨a,0,none⟩=some (ab y0)/\i.cell? ⟨a,1,none⟩=some (ab y1)/\i.cell? ⟨a,2,none⟩=some (af ys)/\i.cell? ⟨a,3,none⟩=some (ae ya yl yc)))->bq (λb=>b=f) i m->(m.cell? ⟨wp.b,wp.o,none⟩=some (.map (some f))/\(m.cell? ⟨h,0,none⟩=some (ab j)/\m.cell? ⟨h,1,none⟩=some (ab k))/\(m.cell? ⟨a,0,none⟩=some (ab y0)/\m.cell? ⟨a,1,none⟩=some (ab y1)/\m.cell? ⟨a,2,none⟩=some (af ys)/\m.cell? ⟨a,3,none⟩=some (ae ya yl yc)))):=by
   rintro i m ⟨F,⟨G,H⟩,I,J,K,M⟩ l;have lt:=λ(b o:Nat)(v:Value)(u:i.cell? ⟨b,o,none⟩=some v)=>jt i ⟨b,o,none⟩ u;exact⟨eX l (lt _ _ _ F) aq _ _ F,⟨eX l (lt _ _ _ G) T _ _ G,eX l (lt _ _ _ H) T _ _ H⟩,eX l (lt _ _ _ I) x _ _ I,eX l (lt _ _ _ J) x _ _ J,eX l (lt _ _ _ K) x _ _ K,eX l (lt _ _ _ M) x _ _ M⟩
  obtain⟨F,⟨G,H⟩,I,J,K,M⟩:=O.out wr (ap _ _);obtain⟨A,d,a6,S⟩:=aR.out _ r.out;have s:=ao S;have aV:=ao (ax.out _ _ r.out S.1);have a2:=ao (S.2.1.trans aA.out);simp only[pk,goInt]at a6;clear S;clear an y z n P aN X Z aa Y ag aJ aK aL ba T x V;go_wp2_with fail
  go_region_held3 (λW=>W.cell? ⟨wp.b,wp.o,none⟩=some (.map (some f))/\(W.cell? ⟨h,0,none⟩=some (ab j)/\W.cell? ⟨h,1,none⟩=some (ab k))/\(W.cell? ⟨a,0,none⟩=some (ab y0)/\W.cell? ⟨a,1,none⟩=some (ab y1)/\W.cell? ⟨a,2,none⟩=some (af ys)/\W.cell? ⟨a,3,none⟩=some (ae ya yl yc)))
   (first|(go_keep;done)|exact O.out _ (ap _ _).drew|exact O.out _ r.out|exact aV.out|exact aw.out|exact aW.out) ((first
    | (refine step_append_lies _ rfl _ _ 28 rfl base 30 E _ 4 56 Tryz.underlying28 N.out.1 N.out.2.1 N.out.2.2.1 N.out.2.2.2 rfl (by decide) (ae sa L sc) L xs (by simp[Act.eval]) (aZ.out _ (aT.out _ s.out.1)) ⟨wr.heap.size,0,none⟩ 1 1 [ab y0,ab y1,af ys,ae ya yl yc] (by simp[Act.eval]) rfl (World.news_of_block (cs:= #[ab y0,ab y1,af ys,ae ya yl yc]) (t:=30) (fr:=(0,0)) (aU.out _ s.out.1)) (by simp[Value.oneCell']) (by decide) (by unfold maxLen;omega) (by omega) (by have:=a2.out;omega) _ rfl ?_;intro a5 a4 i aM al aG bb;have a1:=a0.out _ _ _ _ _ a5 a4 s.out.2.2 r.out s.out.1 s.out.2.1 (ap _ _) al aM aG;obtain⟨m,a7,aF⟩:=a1;have az:=ao aF;simp only[goInt]at a7;have aw:=ao (aY.out _ _ _ r.out s.out.1 al);have aW:=ao (aX.out _ _ aw.out az.out.2.1);clear aM al aG bb aF)))
  exact dR (v:=.tuple #[]) (by simp[results]) rfl ⟨rfl,az.out.1⟩
variable {base n N:Nat} {wp:BL} {mo:Option Nat} {f:Int×Int->List (Tm N)} {sl:Int×Int->Value} {w:World}
theorem nw.at{v:Value}{l:List (Tm N)}(d:nw base N v l w):∃a c,v=.slice a l.length c/\w.ownsRow base 30 4 (.slice a l.length c) l.length (di N l):=by
 obtain⟨a,c,b⟩:=d.sliced;refine⟨a,c,b,?_⟩;rw[<-b];exact d
theorem EG(y:Tm (N+1)):uF (gd (N+1) y)=[.int .i64 y.1.1,.int .i64 y.1.2.1,.string y.1.2.2,.slice y.2.1.1 y.2.2.length y.2.1.2]:=rfl
theorem vo{e:Nat}(h:gS base wp (some e) n N f sl w):wp.b≠e:=by
 intro g;obtain⟨_,i,c⟩:=h;rcases c with⟨c,_⟩|⟨m,a,j⟩
 ·cases c
 ·injection a with a;subst a g;obtain⟨k,⟨es,l,d,_⟩,_⟩:=j.map;rw[i.2]at d;cases d
theorem zi(c:gS base wp mo n N f sl w){k:Int×Int}(g:I2 k):(sl k).ownBlock≠some wp.b:=by
 intro d;obtain⟨h,a⟩:=dV (c.row g) wp.b d;rw[c.2.1.2]at a;injection a with a;injection a with _ e _;exact c.2.1.1.2 e
theorem Kp{f:Int×Int->List (Tm (N+1))}(d:gS base wp mo n (N+1) f sl w){k:Int×Int}(i:I2 k)(y:Tm (N+1))(ad:n<999999)(W:(f k).length<1000):Calls Tryz.prog 145 #[.pointer (some ⟨wp.b,wp.o,none⟩),pk k,dj (N+1) y] w λe w'=>e=.returned (.tuple #[])/\Mz base wp mo n (N+1) f sl k (f k++ [y]) w w':=by
 have v:=d.lt wp.b (ah rfl);rcases d.2.2 with⟨rfl,rfl,rfl⟩|⟨m,rfl,D⟩
 ·obtain⟨wr,j⟩:∃wr,wr=(((w.alloc (.cells #[.int .i64 k.1,.int .i64 k.2] 164)).alloc (.cells #[.int .i64 y.1.1,.int .i64 y.1.2.1,.string y.1.2.2,.slice y.2.1.1 y.2.2.length y.2.1.2] 30)).alloc (.map #[] 0)).setCell ⟨wp.b,wp.o,none⟩ (.map (some (w.heap.size+1+1))):=⟨_,rfl⟩;have Y:wr.heap.size=w.heap.size+3:=by rw[j];simp[World.setCell]
  have T:bq (λb=>b=wp.b) w wr:=by
   rw[j];refine bq.trans (aI (((((ap w.heap.size w).alloc (ak _) _).alloc (by simp) _).alloc (by simp;omega) _)) _) (bz _ wp.b wp.o _) λ_ _ e=>e
  have Z:sN wp (some (w.heap.size+1+1)) wr:=by
   rw[j];exact(d.2.1.kept (((((ap w.heap.size w).alloc (ak _) (.cells #[.int .i64 k.1,.int .i64 k.2] 164)).alloc (by simp) (.cells #[.int .i64 y.1.1,.int .i64 y.1.2.1,.string y.1.2.2,.slice y.2.1.1 y.2.2.length y.2.1.2] 30)).alloc (by simp;omega) (.map #[] 0)).block wp.b v.2)).set
  have l:GM base (w.heap.size+1+1) n (N+1) (λ_=> []) (λ_=>lT) wr:=by
   have P:=GM.new ((w.alloc (.cells #[.int .i64 k.1,.int .i64 k.2] 164)).alloc (.cells #[.int .i64 y.1.1,.int .i64 y.1.2.1,.string y.1.2.2,.slice y.2.1.1 y.2.2.length y.2.1.2] 30)) (N+1);have e:((w.alloc (.cells #[.int .i64 k.1,.int .i64 k.2] 164)).alloc (.cells #[.int .i64 y.1.1,.int .i64 y.1.2.1,.string y.1.2.2,.slice y.2.1.1 y.2.2.length y.2.1.2] 30)).heap.size=w.heap.size+1+1:=by simp
   rw[e]at P
   have Q:=(P.kee (bz _ wp.b wp.o (.map (some (w.heap.size+1+1)))) λb a e=>by
    rcases a with a|⟨x,_,a⟩
    ·omega
    ·simp[lT,Value.ownBlock]at a)
   rw[<-j]at Q;exact(Q.rebase (by omega)).mono (aE _)
  refine(DP wp (w.heap.size+1+1) k.1 k.2 y.1.1 y.1.2.1 y.1.2.2 y.2.1.1 y.2.2.length y.2.1.2 0 0 none [] base w wr (λh r p=>Mn base (w.heap.size+1+1) n (N+1) (λ_=> []) (λ_=>lT) k r h p) (λw'=>Mz base wp none n (N+1) (λ_=> []) (λ_=>lT) k ([]++ [y]) w w') (by omega) (by omega) v.2 (ai ⟨rfl,j,λb a=>by simp[Value.ownBlock]at a,d.2.1⟩) ?_ ?_ ?_).mono λe w' d=>d
  ·intro h g;exact⟨rfl,ah ⟨rfl,rfl⟩⟩
  ·intro h g;exact l.open i (by omega) g
  ·intro h r p R ab S c C g F J B t H s;obtain⟨O,I,E,G,K⟩:=Mn.done l i C g F J B t (y:=y) (L:=0) rfl (by simpa [di,cr,EG]using H) s;refine⟨O,I,?_,G,K⟩;obtain⟨aa,z,q,A⟩:=E;have M:¬L8 (w.heap.size+1+1) (λ_=>lT) wp.b:=by
    rintro (e|⟨x,_,e⟩)
    ·omega
    ·simp[lT,Value.ownBlock]at e
   refine⟨some (w.heap.size+1+1),_,⟨d.1,Z.kept (q.block wp.b (by omega) M),ai ⟨_,rfl,z⟩⟩,?_,λb a=>?_⟩
   ·refine bq.trans (T.mono λb _ e=>ah e) q λb a e=>?_;rcases e with e|⟨x,_,e⟩
    ·omega
    ·simp[lT,Value.ownBlock]at e
   ·rcases a with a|a|a
    ·exact ah (ah a)
    ·injection a with a;exact ai (by omega)
    ·rcases A b (ai a)with(e|⟨x,_,e⟩)|e
     ·exact ai (by omega)
     ·simp[lT,Value.ownBlock]at e
     ·exact ai (by omega)
 ·obtain⟨sa,sc,u,ae⟩:=(D.row k i).at;have X:=D.lt m (ah rfl);obtain⟨wr,j⟩:∃wr,wr=(w.alloc (.cells #[.int .i64 k.1,.int .i64 k.2] 164)).alloc (.cells #[.int .i64 y.1.1,.int .i64 y.1.2.1,.string y.1.2.2,.slice y.2.1.1 y.2.2.length y.2.1.2] 30):=⟨_,rfl⟩;have a:Below w.heap.size w wr:=by
   rw[j];exact((ap _ _).alloc (ak _) _).alloc (by simp) _
  have Y:wr.heap.size=w.heap.size+2:=by rw[j];simp
  have l:GM base m n (N+1) f sl wr:=D.kee (aI a λ_=>False) λ_ _ U=>U;refine(DP wp m k.1 k.2 y.1.1 y.1.2.1 y.1.2.2 y.2.1.1 y.2.2.length y.2.1.2 (f k).length sc sa (di (N+1) (f k)) base w wr (λh r p=>Mn base m n (N+1) f sl k r h p) (λw'=>Mz base wp (some m) n (N+1) f sl k (f k++ [y]) w w') W (by omega) v.2 (ah ⟨X.2,vo d,j,λb a=>?_,d.cell.1⟩) ?_ ?_ ?_).mono λe w' d=>d
  ·rw[<-u]at a;exact⟨((d.row i).lt b a).2,λe=>zi d i (by rw[a,e])⟩
  ·intro h g;rw[<-u];exact bf (l.row k i) g λb a e=>l.ne i (by rw[a,e])
  ·intro h g;rw[<-u];exact l.open i (by omega) g
  ·intro h r p R ab S c C g F J B t H s;rw[<-u]at t s;obtain⟨O,I,E,G,K⟩:=Mn.done l i C g F J B t (y:=y) (L:=(f k).length) rfl (by simpa [EG]using H) s;refine⟨O,I,?_,G,K⟩;obtain⟨aa,z,q,A⟩:=E;have M:¬L8 m sl wp.b:=by
    rintro (e|⟨x,V,e⟩)
    ·exact vo d e
    ·exact zi d V e
   refine⟨some m,_,⟨d.1,(d.2.1.kept (a.block wp.b v.2)).kept (q.block wp.b (by omega) M),ai ⟨_,rfl,z⟩⟩,?_,λb a=>?_⟩
   ·exact bq.trans (aI a _) q λb _ e=>Ee e
   ·rcases a with a|a|a
    ·exact ah (ah a)
    ·injection a with a;exact ah (ai (ah (by rw[a])))
    ·rcases A b (ai a)with e|e
     ·exact ah (Ee e)
     ·exact ai (by omega)
def gH(b c:Bool)(a:Int)(cl:Bool)(L:Nat):Int:=if b=false\/c=false then 1 else if a≠0 then a else if cl=false then 5 else if 20<=L then 2 else 0
theorem DJ(wp:BL)(a b:Int)(k l:Int)(s:ByteArray)(h:Option Addr)(j i:Nat)(v g:Bool)(d:Int)(cl:Bool)(L:Nat)(w:World)(C:Int->Int->ByteArray->Option Addr->Nat->Nat->World->World->Prop)(N:World->Prop)(ar:L<=1000)(S:Hid (∀W,am 143 #[ab a] W λe w'=>e=.returned (.bool v)/\w'=W))(T:Hid (∀W,am 143 #[ab b] W λe w'=>e=.returned (.bool g)/\w'=W))(Z:Hid (∀W,aj w W->am 51 #[.agg #[ab k,ab l,af s,ae h j i]] W λe w'=>e=.returned (ab d)/\aj W w'))(aa:Hid (∀W,aj w W->am 52 #[.agg #[ab k,ab l,af s,ae h j i]] W λe w'=>e=.returned (.bool cl)/\aj W w'))(ad:Hid (∀W,aj w W->am 144 #[.pointer (some ⟨wp.b,wp.o,none⟩),ab a,ab b] W λe w'=>e=.returned (ab L)/\w'=W))(X:Hid (∀W,d=0->aj w W->am 54 #[.agg #[ab k,ab l,af s,ae h j i]] W λe w'=>∃n p u q t r,e=.returned (.agg #[ab n,ab p,af u,ae q t r])/\Hid (C n p u q t r W w')))(U:Hid (∀n p u q t r W w1,gH v g d cl L=0->C n p u q t r W w1->aj w W->am 145 #[.pointer (some ⟨wp.b,wp.o,none⟩),.agg #[ab a,ab b],.agg #[ab n,ab p,af u,ae q t r]] w1 λe w'=>e=.returned (.tuple #[])/\Hid (N w'))):am 107 #[.pointer (some ⟨wp.b,wp.o,none⟩),ab a,ab b,.agg #[ab k,ab l,af s,ae h j i]] w λe w'=>e=.returned (ab (gH v g d cl L))/\(gH v g d cl L≠0->aj w w')/\(gH v g d cl L=0->N w'):=by
 have Q:Hid (∃m f,m=w.alloc (.cells #[ab k,ab l,af s,ae h j i] 30)/\f=w.heap.size):=⟨_,_,rfl,rfl⟩;go_enter Tryz.func107,Tryz.ntmps107;go_wp2_with fail;obtain⟨m,f,B,M⟩:=Q.out;rw[<-B,<-M];have x:Hid (aj w m):=by
  rw[B];exact(ap _ _).alloc (ak _) _
 have P:Hid (m.heap[f]?=some (.cells #[ab k,ab l,af s,ae h j i] 30)/\f<m.heap.size):=by
  rw[B,M];exact⟨aB w _,by simp⟩
 have I:Hid (∀W,aj m W->W.cell? ⟨f,0,none⟩=some (ab k)/\W.cell? ⟨f,1,none⟩=some (ab l)/\W.cell? ⟨f,2,none⟩=some (af s)/\W.cell? ⟨f,3,none⟩=some (ae h j i)):=by
  intro W al;have c:=(al.block f P.out.2).trans P.out.1;exact⟨ag c 0,ag c 1,ag c 2,ag c 3⟩
 clear B M Q;refine(S.out m).mono ?_;rintro e w1 ⟨rfl,rfl⟩;cases v
 ·go_wp2_with fail
  go_ret
  have e:gH false g d cl L=1:=by simp[gH]
  rw[e];exact⟨rfl,λ_=>x.out,λc=>by cases c⟩
 ·go_wp2_with fail;refine(T.out _).mono ?_;rintro e av ⟨rfl,rfl⟩;cases g
  ·go_wp2_with fail
   go_ret
   have e:gH true false d cl L=1:=by simp[gH]
   rw[e];exact⟨rfl,λ_=>x.out,λc=>by cases c⟩
  ·obtain⟨D,E,F,G⟩:=I.out _ (ap _ _);go_wp2_with fail;refine(Z.out _ x.out).mono ?_;rintro e aw ⟨rfl,J⟩;have H:=ao J;have A:=ao (x.out.trans (J.mono x.out.size));clear J D E F G;by_cases z:d=0;rotate_left
   ·have au:¬(0:Int)=d:=λe=>z e.symm;go_wp2_with fail
    go_ret
    have e:gH true true d cl L=d:=by simp[gH,z]
    rw[e];exact⟨rfl,λ_=>A.out,λc=>absurd c z⟩
   ·obtain⟨D,E,F,G⟩:=I.out _ H.out;have aq:=ao z;subst z;go_wp2_with fail;refine(aa.out _ A.out).mono ?_;rintro e ax ⟨rfl,K⟩;have V:=ao (H.out.trans (K.mono H.out.size));have y:=ao (A.out.trans (K.mono A.out.size));clear K D E F G;cases cl
    ·go_wp2_with fail
     go_ret
     have e:gH true true 0 false L=5:=by simp[gH]
     rw[e];exact⟨rfl,λ_=>y.out,λc=>by cases c⟩
    ·go_wp2_with fail;refine(ad.out _ y.out).mono ?_;rintro e ay ⟨rfl,rfl⟩;by_cases R:20<=L
     ·have ai:(20:Int)<=(L:Int):=by omega
      go_wp2_with fail
      go_ret
      have e:gH true true 0 true L=2:=by simp[gH,R]
      rw[e];exact⟨rfl,λ_=>y.out,λc=>by cases c⟩
     ·have ai:¬(20:Int)<=(L:Int):=by omega
      have O:Hid (gH true true 0 true L=0):=(show gH true true 0 true L=0 by simp[gH,R]);obtain⟨D,E,F,G⟩:=I.out _ V.out;go_wp2_with fail;refine(X.out _ (by simp) y.out).mono ?_;rintro e an ⟨n,p,u,q,t,r,rfl,ah⟩;go_wp2_with fail;refine(U.out n p u q t r _ an O.out ah.out y.out).mono ?_;rintro e az ⟨rfl,Y⟩;go_wp2_with fail
      go_ret
      rw[O.out];exact⟨rfl,λc=>absurd rfl c,λ_=>Y.out⟩
theorem DI{n:Nat}{x:Tm n}(a:bu n x=0):az ⟨n,x⟩:=by
 rw[aL];rw[<-gf]at a;unfold vJ at a;split at a
 ·rename_i b;simpa using b
 ·cases a
variable {base n N:Nat} {wp:BL} {mo:Option Nat} {f:Int×Int->List (Tm (N+1))} {sl:Int×Int->Value} {w:World}
def Lm(a:Int):Bool:=decide (1<=a) && decide (a<=99)
def nj(N:Nat)(a b:Int)(x:Tm (N+1))(L:Nat):Int:=gH (Lm a) (Lm b) (bu (N+1) x) (aJ (N+1) x) L
def G8(base:Nat)(wp:BL)(mo:Option Nat)(n N:Nat)(f:Int×Int->List (Tm (N+1)))(sl:Int×Int->Value)(k:Int×Int)(x:Tm (N+1))(w w':World):Prop:=
 ∃a c d,ax (N+1) a (N+1) x=true/\gS base wp c (n+1) (N+1) (gK f k (f k++ [a])) d w'/\bq (ri wp mo sl) w w'/\(∀b,ri wp c d b->ri wp mo sl b\/w.heap.size<=b)/\In w'.heap.size w' (N+1) a/\bZ (λb=>w.heap.size<=b/\¬ri wp c d b) (N+1) a
theorem Jv(i:gS base wp mo n (N+1) f sl w){a b:Int}(p:I2 (a,b))(x:Tm (N+1))(m:In w.heap.size w (N+1) x)(D:(aw (N+1) x).length<=2097152)(H:n<999999)(G:(f (a,b)).length<=1000):am 107 #[.pointer (some ⟨wp.b,wp.o,none⟩),ab a,ab b,dj (N+1) x] w λe w'=>e=.returned (ab (nj N a b x (f (a,b)).length))/\(nj N a b x (f (a,b)).length≠0->aj w w')/\(nj N a b x (f (a,b)).length=0->G8 base wp mo n N f sl (a,b) x w w'):=by
 refine DJ wp a b x.1.1 x.1.2.1 x.1.2.2 x.2.1.1 x.2.2.length x.2.1.2 (Lm a) (Lm b) (bu (N+1) x) (aJ (N+1) x) (f (a,b)).length w
  (λu v B y A z g w'=>∃c:Tm (N+1),(u=c.1.1/\v=c.1.2.1/\B=c.1.2.2/\y=c.2.1.1/\A=c.2.2.length/\z=c.2.1.2)/\aj g w'/\In w'.heap.size w' (N+1) c/\bZ (λM=>g.heap.size<=M) (N+1) c/\ax (N+1) c (N+1) x=true)
  (λw'=>G8 base wp mo n N f sl (a,b) x w w') G (λg=>Em a g) (λg=>Em b g) (λg d=>?_) (λg d=>?_) (λg d=>?_) (λg F d=>?_) ?_
 ·exact dD (N+1) x w.heap.size g (m.below d) d.size D
 ·exact iu (N+1) x w.heap.size g (m.below d) d.size
 ·exact GZ (i.later d) p
 ·refine(gW (N+1) x w.heap.size g (m.below d) d.size (DI F)).mono ?_;rintro e w' ⟨c,rfl,I⟩;exact⟨c.1.1,c.1.2.1,c.1.2.2,c.2.1.1,c.2.2.length,c.2.1.2,rfl,⟨c,⟨rfl,rfl,rfl,rfl,rfl,rfl⟩,I.out⟩⟩
 ·rintro u v B y A z g P h ⟨c,⟨rfl,rfl,rfl,rfl,rfl,rfl⟩,E,q,r,J⟩ d;have l:aj w P:=d.trans (E.mono d.size);have C:(f (a,b)).length<1000:=by
   by_cases Q:20<=(f (a,b)).length
   ·exfalso;unfold gH at h;split at h
    ·cases h
    ·split at h
     ·contradiction
     ·split at h
      ·cases h
      ·first|cases h|(split at h<;>first|cases h|contradiction)
   ·omega
  refine(Kp (i.later l) p c H C).mono ?_;rintro e w' ⟨rfl,L,O,K,s,t⟩;refine⟨rfl,c,L,O,J,K,bq.trans (aI l _) s λ_ _ e=>e,λb j=>?_,?_,?_⟩
  ·rcases t b j with e|e
   ·exact ah e
   ·exact ai (ay l.size e)
  ·refine q.kee s (r.mono λb j k=>?_);have:=(i.lt b k).2;have:=d.size;omega
  ·refine(In.offB r q).mono λb j=>⟨ay d.size j.1,λk=>?_⟩;rcases t b k with e|e
   ·have:=(i.lt b e).2;have:=d.size;omega
   ·omega
theorem Gx(wp:BL)(mo:Option Nat)(a b:Int)(w:World)(F:wp.b<w.heap.size)(y:Hid (w.cell? ⟨wp.b,wp.o,none⟩=some (.map mo)))(z:Hid (∀W,aj w W->(Instr.lookup 63 (.map mo) (.agg #[ab a,ab b]) false).run Tryz.prog W=.ok (ae none 0 0) W)):am 48 #[.pointer (some ⟨wp.b,wp.o,none⟩),ab a,ab b] w λe w'=>e=.returned (.tuple #[.agg #[ab 0,ab 0,af ⟨#[]⟩,ae none 0 0],ab 4])/\aj w w':=by
 have t:=y.out;have s:Hid (∃wr c d,wr=(w.alloc (.cells #[ab 0,ab 0,af ⟨#[]⟩,ae none 0 0] 30)).alloc (.cells #[ab a,ab b] 164)/\c=w.heap.size/\d=w.heap.size+1):=⟨_,_,_,rfl,rfl,rfl⟩;go_enter Tryz.func48,Tryz.ntmps48;go_wp2_with fail;obtain⟨wr,c,d,f,l,m⟩:=s.out;rw[<-f,<-m,<-l];have E:wr.heap.size=w.heap.size+2:=by rw[f];simp
 have HB:Hid (aj w wr):=by
  rw[f];exact((ap _ _).alloc (ak _) _).alloc (by simp) _
 have A:Hid (wr.heap[c]?=some (.cells #[ab 0,ab 0,af ⟨#[]⟩,ae none 0 0] 30)):=by
  rw[f,l];exact(((ap _ _).alloc (ak _) _).block w.heap.size (by simp)).trans (aB w _)
 have B:Hid (wr.heap[d]?=some (.cells #[ab a,ab b] 164)):=by
  rw[f,m];have C:=aB (w.alloc (.cells #[ab 0,ab 0,af ⟨#[]⟩,ae none 0 0] 30)) (.cells #[ab a,ab b] 164);have e:(w.alloc (.cells #[ab 0,ab 0,af ⟨#[]⟩,ae none 0 0] 30)).heap.size=w.heap.size+1:=by simp
  rwa [e]at C
 have k:Hid (c<wr.heap.size/\d<wr.heap.size/\wp.b<wr.heap.size/\w.heap.size<=c/\w.heap.size<=d/\wp.b<w.heap.size):=(show _/\_ by omega);have r:Hid (∀W,aj wr W->W.cell? ⟨wp.b,wp.o,none⟩=some (.map mo)/\W.cell? ⟨d,0,none⟩=some (ab a)/\W.cell? ⟨d,1,none⟩=some (ab b)):=by
  intro W j;have u:=(j.block d k.out.2.1).trans B.out;exact⟨((j.cell (p:=⟨wp.b,wp.o,none⟩) k.out.2.2.1).trans (HB.out.cell (p:=⟨wp.b,wp.o,none⟩) F)).trans t,ag u 0,ag u 1⟩
 have q:Hid (aj wr wr.drew):=(ap _ _).drew;have n:Hid (∀W,aj wr W->aj w W):=λW j=>HB.out.trans (j.mono HB.out.size);have O:=z.out _ (n.out _ q.out);obtain⟨P,Q,R⟩:=r.out wr (ap _ _);clear f l m s E t;go_region_held3 (λW=>W.cell? ⟨wp.b,wp.o,none⟩=some (.map mo)/\W.cell? ⟨d,0,none⟩=some (ab a)/\W.cell? ⟨d,1,none⟩=some (ab b)) (first|(go_keep;done)|exact r.out _ q.out) (fail);have g:=A.out;have G:wr.cell? ⟨c,0,none⟩=some (ab 0):=ag g 0;have H:wr.cell? ⟨c,1,none⟩=some (ab 0):=ag g 1;have I:wr.cell? ⟨c,2,none⟩=some (af ⟨#[]⟩):=ag g 2;have J:wr.cell? ⟨c,3,none⟩=some (ae none 0 0):=ag g 3;have h:∀x,wr.frozen? ⟨c,x,none⟩=false:=λx=>by simp[World.frozen?,g]
 have K:=h 0;have L:=h 1;have M:=h 2;have N:=h 3;clear h g;have i:=ao k.out.2.2.2.1;go_wp2_with fail;refine av (v:=.tuple #[.agg #[ab 0,ab 0,af ⟨#[]⟩,ae none 0 0],ab 4]) (by simp[results,Tryz.results48,go_sem,G,H,I,J]) rfl ⟨rfl,?_⟩;have D:=n.out _ (ap _ _);exact((((D.setCell i.out _).setCell i.out _).setCell i.out _).setCell i.out _).drew
theorem xe(wp:BL)(i g c m:Nat)(y0 y1:Int)(ys:ByteArray)(ya:Option Addr)(yl yc:Nat)(a b:Int)(w:World)(G:World->Prop)(R:World->World->Prop)(a0:wp.b<w.heap.size)(M:g<w.heap.size)(bb:i<w.heap.size)(aX:wp.b≠i)(aW:wp.b≠g)(aH:Hid (w.cell? ⟨wp.b,wp.o,none⟩=some (.map (some i))))(ar:Hid (∀W,aj w W->(Instr.lookup 63 (.map (some i)) (.agg #[ab a,ab b]) false).run Tryz.prog W=.ok (ae (some ⟨g,0,none⟩) (m+1) c) W))(aM:Hid (w.cell? ⟨g,0,none⟩=some (ab y0)/\w.cell? ⟨g,1,none⟩=some (ab y1)/\w.cell? ⟨g,2,none⟩=some (af ys)/\w.cell? ⟨g,3,none⟩=some (ae ya yl yc)))(aU:(m=0/\Hid (∀W,aj w W->∃w',(∀ty,(Builtin.delete_ #[63,164] ty #[.map (some i),.agg #[ab a,ab b]]).run Tryz.prog W=.ok (.tuple #[]) w')/\bq (λb=>b=i) W w'/\w'.heap.size=W.heap.size/\∀w2,Below w.heap.size w' w2->G w2))\/(1<=m/\m<=1000/\Hid (∀W,aj w W->am 77 #[ae (some ⟨g,0,none⟩) (m+1) c,ab 0,ab 1] W λe w'=>e=.returned (ae (some ⟨g,0,none⟩) m c)/\Hid (W.grownBy w' (some g)/\R W w'))/\Hid (∀W H,R W H->aj w W->W.grownBy H (some g)->∃w',(Instr.mapUpdate 63 (.map (some i)) (.agg #[ab a,ab b]) (ae (some ⟨g,0,none⟩) m c)).run Tryz.prog H=.ok () w'/\bq (λb=>b=i) H w'/\∀w2,Below w.heap.size w' w2->G w2))):am 48 #[.pointer (some ⟨wp.b,wp.o,none⟩),ab a,ab b] w λe w'=>e=.returned (.tuple #[.agg #[ab y0,ab y1,af ys,ae ya yl yc],ab 0])/\G w':=by
 have aA:=aH.out;have ay:Hid (∃wr f h,wr=(w.alloc (.cells #[ab 0,ab 0,af ⟨#[]⟩,ae none 0 0] 30)).alloc (.cells #[ab a,ab b] 164)/\f=w.heap.size/\h=w.heap.size+1):=⟨_,_,_,rfl,rfl,rfl⟩;go_enter Tryz.func48,Tryz.ntmps48;go_wp2_with fail;obtain⟨wr,f,h,u,S,T⟩:=ay.out;rw[<-u,<-T,<-S];have aZ:wr.heap.size=w.heap.size+2:=by rw[u];simp
 have HB:Hid (aj w wr):=by
  rw[u];exact((ap _ _).alloc (ak _) _).alloc (by simp) _
 have aK:Hid (wr.heap[f]?=some (.cells #[ab 0,ab 0,af ⟨#[]⟩,ae none 0 0] 30)):=by
  rw[u,S];exact(((ap _ _).alloc (ak _) _).block w.heap.size (by simp)).trans (aB w _)
 have ax:Hid (wr.heap[h]?=some (.cells #[ab a,ab b] 164)):=by
  rw[u,T];have J:=aB (w.alloc (.cells #[ab 0,ab 0,af ⟨#[]⟩,ae none 0 0] 30)) (.cells #[ab a,ab b] 164);have e:(w.alloc (.cells #[ab 0,ab 0,af ⟨#[]⟩,ae none 0 0] 30)).heap.size=w.heap.size+1:=by simp
  rwa [e]at J
 have x:Hid (f<wr.heap.size/\h<wr.heap.size/\wp.b<wr.heap.size/\w.heap.size<=f/\w.heap.size<=h/\wp.b<w.heap.size):=(show _/\_ by omega);have Q:Hid (∀W,aj wr W->W.cell? ⟨wp.b,wp.o,none⟩=some (.map (some i))/\W.cell? ⟨h,0,none⟩=some (ab a)/\W.cell? ⟨h,1,none⟩=some (ab b)):=by
  intro W s;have C:=(s.block h x.out.2.1).trans ax.out;exact⟨((s.cell (p:=⟨wp.b,wp.o,none⟩) x.out.2.2.1).trans (HB.out.cell (p:=⟨wp.b,wp.o,none⟩) a0)).trans aA,ag C 0,ag C 1⟩
 have an:Hid (aj wr wr.drew):=(ap _ _).drew;have al:Hid (∀W,aj wr W->aj w W):=λW s=>HB.out.trans (s.mono HB.out.size);have aV:=ar.out _ (al.out _ an.out);obtain⟨aE,aF,aG⟩:=Q.out wr (ap _ _);clear u S T ay aZ aA;go_region_held3 (λW=>W.cell? ⟨wp.b,wp.o,none⟩=some (.map (some i))/\W.cell? ⟨h,0,none⟩=some (ab a)/\W.cell? ⟨h,1,none⟩=some (ab b)) (first|(go_keep;done)|exact Q.out _ an.out) (fail);obtain⟨U,V,X,Y⟩:=aM.out;have B:=aq HB.out;replace U:=(B _ _ M).trans U;replace V:=(B _ _ M).trans V;replace X:=(B _ _ M).trans X;replace Y:=(B _ _ M).trans Y;clear B;rcases aU with⟨rfl,O⟩|⟨a9,ba,O,aL⟩
 case' inl=>simp only[cT]at ar
 case' inr=>
  have bf:¬((m:Int)+1=0):=by omega
  have bg:¬((m:Int)+1=1):=by omega
  have bh:(0:Int)<(m:Int)+1:=by omega
 all_goals
  have az:Hid (∃j q,(j=(wr.alloc (.cells #[ab y0,ab y1,af ys,ae ya yl yc] 30)).drew/\q=wr.heap.size)/\aj wr j/\j.heap[q]?=some (.cells #[ab y0,ab y1,af ys,ae ya yl yc] 30)/\q<j.heap.size/\wr.heap.size<=q):=⟨_,_,⟨rfl,rfl⟩,(show Below _ _ _ by go_grown),aB wr _,by simp[World.drew],ak _⟩;go_wp2_with fail;obtain⟨j,q,⟨aD,aC⟩,n⟩:=az.out;rw[<-aD,<-aC];replace n:=ao n;clear aD aC az aE aF aG aV U V X Y;have ai:=ao (al.out _ n.out.1);have y:Hid (∀W:World,(∀b,b<j.heap.size->b≠i->b≠g->W.heap[b]?=j.heap[b]?)->(W.cell? ⟨wp.b,wp.o,none⟩=some (.map (some i))/\W.cell? ⟨h,0,none⟩=some (ab a)/\W.cell? ⟨h,1,none⟩=some (ab b))/\(W.cell? ⟨q,0,none⟩=some (ab y0)/\W.cell? ⟨q,1,none⟩=some (ab y1)/\W.cell? ⟨q,2,none⟩=some (af ys)/\W.cell? ⟨q,3,none⟩=some (ae ya yl yc))/\(W.heap[f]?=some (.cells #[ab 0,ab 0,af ⟨#[]⟩,ae none 0 0] 30))):=by
   intro W s;obtain⟨a1,a2,bi,bj,bk,bl⟩:=x.out;have bd:=n.out.1.size;have bc:=n.out.2.2.2;have C:=(s h (by omega) (by omega) (by omega)).trans ((n.out.1.block h a2).trans ax.out);have aO:=(s f (by omega) (by omega) (by omega)).trans ((n.out.1.block f a1).trans aK.out);have I:=(s q n.out.2.2.1 (by omega) (by omega)).trans n.out.2.1;have aP:=s wp.b (by omega) aX aW;refine⟨⟨?_,ag C 0,ag C 1⟩,⟨ag I 0,ag I 1,ag I 2,ag I 3⟩,aO⟩;have J:=(Q.out j n.out.1).1;simp only[World.cell?,aP]at J ⊢;exact J
  have aI:Hid (aj j j.drew):=(ap _ _).drew;have N:=ao (ai.out.trans (aI.out.mono ai.out.size));obtain⟨⟨aE,aF,aG⟩,_,_⟩:=y.out j (λ_ _ _ _=>rfl);have aw:=ao (y.out j.drew (λ_ _ _ _=>rfl)).1
 ·go_region_held3 (λW=>W.cell? ⟨wp.b,wp.o,none⟩=some (.map (some i))/\W.cell? ⟨h,0,none⟩=some (ab a)/\W.cell? ⟨h,1,none⟩=some (ab b)) (first|(go_keep;done)|exact aw.out|exact aJ.out.1|exact z.out.1)
    ((first|(go_at_call 77;refine(O.out _ N.out).mono ?_;rintro e a7 ⟨rfl,A⟩;obtain⟨d,be,E,D⟩:=aL.out _ _ A.out.2 N.out A.out.1;have aJ:=ao (y.out a7 (λb t K L=>A.out.1.block b t (λe=>L (au e))));have z:=ao (y.out d (λb t K L=>(E.block b (aN t A.out.1.size) K).trans (A.out.1.block b t (λe=>L (au e)))));have P:=ao D;clear E D)))
  obtain⟨_,⟨a3,a4,a5,a6⟩,k⟩:=z.out;have Z:d.cell? ⟨f,0,none⟩=some (ab 0):=ag k 0;have aa:d.cell? ⟨f,1,none⟩=some (ab 0):=ag k 1;have ad:d.cell? ⟨f,2,none⟩=some (af ⟨#[]⟩):=ag k 2;have ah:d.cell? ⟨f,3,none⟩=some (ae none 0 0):=ag k 3;have l:∀F,d.frozen? ⟨f,F,none⟩=false:=λF=>by simp[World.frozen?,k]
  have aQ:=l 0;have aR:=l 1;have aS:=l 2;have aT:=l 3;have r:=ao x.out.2.2.2.1;clear l k;go_wp2_with fail;refine av (v:=.tuple #[.agg #[ab y0,ab y1,af ys,ae ya yl yc],ab 0]) (by simp[results,Tryz.results48,go_sem,Z,aa,ad,ah]) rfl ⟨rfl,?_⟩;exact P.out _ (((((ap w.heap.size d).setCell r.out _).setCell r.out _).setCell r.out _).setCell r.out _)
 ·obtain⟨d,a8,E,aY,D⟩:∃d,(∀ty,(Builtin.delete_ #[63,164] ty #[.map (some i),.agg #[ab a,ab b]]).run Tryz.prog j.drew=.ok (.tuple #[]) d)/\bq (λb=>b=i) j.drew d/\d.heap.size=j.drew.heap.size/\∀w2,Below w.heap.size d w2->G w2:=O.out _ N.out;have z:=ao (y.out d (λb t K L=>E.block b t K));have P:=ao D;clear E aY D;go_region_held3 (λW=>W.cell? ⟨wp.b,wp.o,none⟩=some (.map (some i))/\W.cell? ⟨h,0,none⟩=some (ab a)/\W.cell? ⟨h,1,none⟩=some (ab b)) (first|(go_keep;done)|exact aw.out|exact z.out.1) (fail);obtain⟨_,⟨a3,a4,a5,a6⟩,k⟩:=z.out;have Z:d.cell? ⟨f,0,none⟩=some (ab 0):=ag k 0;have aa:d.cell? ⟨f,1,none⟩=some (ab 0):=ag k 1;have ad:d.cell? ⟨f,2,none⟩=some (af ⟨#[]⟩):=ag k 2;have ah:d.cell? ⟨f,3,none⟩=some (ae none 0 0):=ag k 3;have l:∀F,d.frozen? ⟨f,F,none⟩=false:=λF=>by simp[World.frozen?,k]
  have aQ:=l 0;have aR:=l 1;have aS:=l 2;have aT:=l 3;have r:=ao x.out.2.2.2.1;clear l k;go_wp2_with fail;refine av (v:=.tuple #[.agg #[ab y0,ab y1,af ys,ae ya yl yc],ab 0]) (by simp[results,Tryz.results48,go_sem,Z,aa,ad,ah]) rfl ⟨rfl,?_⟩;exact P.out _ (((((ap w.heap.size d).setCell r.out _).setCell r.out _).setCell r.out _).setCell r.out _)
variable {base n N:Nat} {wp:BL} {mo:Option Nat} {f:Int×Int->List (Tm (N+1))} {sl:Int×Int->Value} {w:World}
def lq(base:Nat)(wp:BL)(mo:Option Nat)(n N:Nat)(f:Int×Int->List (Tm (N+1)))(sl:Int×Int->Value)(k:Int×Int)(l:List (Tm (N+1)))(w w':World):Prop:=
 ∃a,gS base wp mo (n+1) (N+1) (gK f k l) a w'/\bq (ri wp mo sl) w w'/\∀b,ri wp mo a b->ri wp mo sl b
theorem lq.later{k:Int×Int}{l:List (Tm (N+1))}{w' w2:World}(h:gS base wp mo n (N+1) f sl w)(g:lq base wp mo n N f sl k l w w')(a:Below w.heap.size w' w2):lq base wp mo n N f sl k l w w2:=by
 obtain⟨o,i,j,d⟩:=g;have e:bq (λb=>w.heap.size<=b) w' w2:=⟨a.os,a.tape,a.output,a.size,λb _ c=>a.block b (by omega)⟩;refine⟨o,i.kee e λb c m=>?_,bq.trans j e λb c m=>?_,d⟩
 ·have:=(h.lt b (d b c)).2;omega
 ·omega
theorem Gl{base g c L:Nat}{y:Tm (N+1)}{l:List (Tm (N+1))}(b:w.ownsRow base 30 4 (ae (some ⟨g,0,none⟩) L c) L (di (N+1) (y::l))):w.cell? ⟨g,0,none⟩=some (ab y.1.1)/\w.cell? ⟨g,1,none⟩=some (ab y.1.2.1)/\w.cell? ⟨g,2,none⟩=some (af y.1.2.2)/\w.cell? ⟨g,3,none⟩=some (ae y.2.1.1 y.2.2.length y.2.1.2):=by
 have a:=CX (l:=(y::l).map (gd (N+1))) b 0 (gd (N+1) y) (by simp);simp only[Nat.zero_mul,cT]at a;exact a
theorem JH(d:gS base wp mo n (N+1) f sl w){a b:Int}(m:I2 (a,b))(ar:n<999999)(V:(f (a,b)).length<=1000):am 48 #[.pointer (some ⟨wp.b,wp.o,none⟩),ab a,ab b] w λe w'=> (f (a,b)=[]->e=.returned (.tuple #[.agg #[ab 0,ab 0,af ⟨#[]⟩,ae none 0 0],ab 4])/\aj w w')/\ ∀y l,f (a,b)=y::l->e=.returned (.tuple #[dj (N+1) y,ab 0])/\lq base wp mo n N f sl (a,b) l w w':=by
 have r:=d.lt wp.b (ah rfl);have z:∀i,aj w i->(Instr.lookup 63 (.map mo) (.agg #[ab a,ab b]) false).run Tryz.prog i=.ok (sl (a,b)) i:=λi g=>(d.later g).look m;cases k:f (a,b)with
 | nil=>
  have t:sl (a,b)=ae none 0 0:=by
   rcases d.2.2 with⟨_,_,rfl⟩|⟨h,rfl,s⟩
   ·rfl
   ·obtain⟨Q,R,G,H⟩:=s.map;have ad:has Q (kl (a,b))=false:=by
     cases hh:has Q (kl (a,b))
     ·rfl
     ·obtain⟨u,x,Z,T⟩:=(H _).1 hh;rw[<-pI m x Z]at T;exact absurd k T
    have:=G (a,b) m;rw[atKey_of_not_has ad]at this;injection this with this;exact this.symm
  rw[t]at z;refine(Gx wp mo a b w r.2 d.cell.1 z).mono ?_;rintro e w' ⟨rfl,c⟩;exact⟨λ_=>⟨rfl,c⟩,λy l e=>by cases e⟩
 | cons y l=>
  rcases d.2.2 with⟨_,rfl,_⟩|⟨h,rfl,s⟩
  ·cases k
  ·obtain⟨sa,sc,t,A⟩:=(s.row (a,b) m).at;rw[k]at t A V;have W:=s.lt h (ah rfl);obtain⟨j,rfl⟩:∃j,sa=some ⟨j,0,none⟩:=by
    rcases A.2 with⟨e,_⟩|⟨j,cap,aq,e,_⟩
    ·simp at e
    ·simp at e;exact⟨j,e.1⟩
   have U:=A.lt j rfl;have O:wp.b≠j:=λe=>zi d m (by rw[t,e];rfl);have Y:=Gl A;rw[t]at z;cases hl0:l with
   | nil=>
    subst hl0;refine(xe wp h j sc 0 y.1.1 y.1.2.1 y.1.2.2 y.2.1.1 y.2.2.length y.2.1.2 a b w (λw'=>lq base wp (some h) n N f sl (a,b) [] w w') (λ_ _=>True) r.2 U.2 W.2 (vo d) O d.cell.1 z Y (ah ⟨rfl,λi g=>?_⟩)).mono ?_
    ·have I:GM base h n (N+1) f sl i:=s.kee (aI g λ_=>False) λ_ _ k=>k;obtain⟨v,P,J,p,X⟩:=I.drop m 3;have ag:∀ty,(Builtin.delete_ #[63,164] ty #[.map (some h),.agg #[ab a,ab b]]).run Tryz.prog i=.ok (.tuple #[]) v:=λty=>P;refine⟨v,ag,p,X,λao K=>?_⟩;have q:lq base wp (some h) n N f sl (a,b) [] w v:=by
      refine⟨_,⟨d.1,(d.2.1.kept (g.block wp.b r.2)).kept (p.block wp.b (aN r.2 g.size) (vo d)),ai ⟨h,rfl,J.mono (fL n)⟩⟩,bq.trans (aI g _) p λC _ e=>ai (ah (by rw[e])),λC c=>?_⟩;rcases c with c|c|⟨u,x,c⟩
      ·exact ah c
      ·exact ai (ah c)
      ·by_cases e:u=(a,b)
       ·rw[e,cH]at c;simp[lT,Value.ownBlock]at c
       ·rw[bN _ _ e]at c;exact ai (ai ⟨u,x,c⟩)
     exact lq.later d q K
    ·rintro e w' ⟨rfl,q⟩;refine⟨λe=>(by cases e),λap an e=>?_⟩;injection e with E F;subst E F;exact⟨rfl,q⟩
   | cons y2 aw=>
    rw[<-hl0];have M:l≠[]:=by rw[hl0];simp
    have aa:1<=l.length:=List.length_pos_iff.2 M;refine(xe wp h j sc l.length y.1.1 y.1.2.1 y.1.2.2 y.2.1.1 y.2.2.length y.2.1.2 a b w (λw'=>lq base wp (some h) n N f sl (a,b) l w w') (λi w'=>nw base (N+1) (ae (some ⟨j,0,none⟩) l.length sc) l w'/\w'.heap.size=i.heap.size) r.2 U.2 W.2 (vo d) O d.cell.1 z Y (ai ⟨aa,by simp at V;omega,λi g=>?_,λi D S g L=>?_⟩)).mono ?_
    ·refine(Cg base j sc l.length y l i rfl (bf A (aI g λ_=>False) λ_ _ k=>k) M).mono ?_;rintro e w' ⟨rfl,R,G,H⟩;exact⟨rfl,G,R,H⟩
    ·have I:GM base h n (N+1) f sl i:=s.kee (aI g λ_=>False) λ_ _ k=>k;have B:(sl (a,b)).ownBlock=some j:=by rw[t];rfl
     obtain⟨v,P,J,p,X⟩:=I.store m (w1:=D) ((dU L).mono λb _ e=>B.trans e) M S.1 (λb c=>ah (B.trans c)) (by omega);refine⟨v,P,p,λao K=>?_⟩;have al:bq (ri wp (some h) sl) w D:=bq.trans (aI g _) (dU L) λC _ e=>ai (ai ⟨(a,b),m,B.trans e⟩);have ak:D.heap[wp.b]?=w.heap[wp.b]? :=(L.block wp.b (aN r.2 g.size) (λe=>O (au e))).trans (g.block wp.b r.2);have av:=g.size;have q:lq base wp (some h) n N f sl (a,b) l w v:=by
      refine⟨_,⟨d.1,(d.2.1.kept ak).kept (p.block wp.b (by rw[S.2];omega) (vo d)),ai ⟨h,rfl,J⟩⟩,bq.trans al p λC _ e=>ai (ah (by rw[e])),λC c=>?_⟩;rcases c with c|c|⟨u,x,c⟩
      ·exact ah c
      ·exact ai (ah c)
      ·by_cases e:u=(a,b)
       ·rw[e,cH]at c;exact ai (ai ⟨(a,b),m,B.trans c⟩)
       ·rw[bN _ _ e]at c;exact ai (ai ⟨u,x,c⟩)
     exact lq.later d q K
    ·rintro e w' ⟨rfl,q⟩;refine⟨λe=>(by cases e),λap an e=>?_⟩;injection e with E F;subst E F;exact⟨rfl,q⟩
def gR(x y:Int):Int×Int:=(min x y,max x y)
def pO:List Int:=(List.range 99).map λi:Nat=>(i:Int)+1
theorem AH{y:Int}:y∈pO ↔ 1<=y/\y<=99:=by
 simp only[pO,ci,List.mem_range];constructor
 ·rintro ⟨c,b,rfl⟩;omega
 ·intro a;exact⟨(y-1).toNat,by omega,by omega⟩
theorem nL:pO.length=99:=by simp[pO]
theorem C5:pO.Nodup:=by
 unfold pO;refine List.Pairwise.map _ ?_ List.nodup_range;intro c b a d;exact a (by omega)
theorem Je(i:Nat)(a:i<99):pO[i]?=some ((i:Int)+1):=by simp[pO,a]
def qe(g:Int×Int->Bool)(x:Int):List Int:=pO.filter λy=>g (gR x y)
def vu(g:Int×Int->Bool):Prop:=∀k,g k=true->1<=k.1/\k.1<k.2/\k.2<=99
theorem gY{g:Int×Int->Bool}{x y:Int}:y∈qe g x ↔ (1<=y/\y<=99)/\g (gR x y)=true:=by
 rw[qe,List.mem_filter,AH]
theorem ou(g:Int×Int->Bool)(x:Int):(qe g x).Nodup:=C5.sublist List.filter_sublist
theorem uI(g:Int×Int->Bool)(x:Int):(qe g x).length<=99:=by
 have:=List.length_filter_le (λa=>g (gR x a)) pO;rw[nL]at this;exact this
theorem Jg(x y:Int):gR x y=gR y x:=by simp[gR,Int.min_comm,Int.max_comm]
theorem fU(x y:Int):gR x y=(x,y)/\x<=y\/gR x y=(y,x)/\y<=x:=by
 rcases Int.le_total x y with a|a
 ·exact ah ⟨by simp[gR,Int.min_eq_left a,Int.max_eq_right a],a⟩
 ·exact ai ⟨by simp[gR,Int.min_eq_right a,Int.max_eq_left a],a⟩
theorem FR{g:Int×Int->Bool}(c:vu g){x y:Int}(b:g (gR x y)=true):(1<=x/\x<=99)/\(1<=y/\y<=99)/\x≠y:=by
 have:=c _ b;rcases fU x y with⟨a,_⟩|⟨a,_⟩<;>(rw[a]at this;simp at this;omega)
theorem AO{g:Int×Int->Bool}(b:vu g)(x:Int):x∉qe g x:=λa=>(FR b (gY.1 a).2).2.2 rfl
def wo(g:Int×Int->Bool)(l:List Int):Int×Int->Bool:=λk=>g k && !l.contains k.1 && !l.contains k.2
theorem rZ{g:Int×Int->Bool}{l:List Int}{k:Int×Int}:wo g l k=true ↔ g k=true/\k.1∉l/\k.2∉l:=by
 simp[wo,and_assoc]
theorem J5{g:Int×Int->Bool}{l:List Int}{x y:Int}:wo g l (gR x y)=true ↔ g (gR x y)=true/\x∉l/\y∉l:=by
 rw[rZ];rcases fU x y with⟨d,_⟩|⟨d,_⟩
 ·rw[d]
 ·rw[d];constructor
  ·rintro ⟨a,b,c⟩;exact⟨a,c,b⟩
  ·rintro ⟨a,b,c⟩;exact⟨a,c,b⟩
theorem vu.wo{g:Int×Int->Bool}(a:vu g)(l:List Int):vu (wo g l):=λk b=>a k (rZ.1 b).1
theorem N0(g:Int×Int->Bool)(l r:List Int):wo (wo g l) r=wo g (l++r):=by
 funext k;rw[Bool.eq_iff_iff,rZ,rZ,rZ];simp only[cR,not_or];constructor
 ·rintro ⟨⟨a,b,c⟩,d,e⟩;exact⟨a,⟨b,d⟩,c,e⟩
 ·rintro ⟨a,⟨b,d⟩,c,e⟩;exact⟨⟨a,b,c⟩,d,e⟩
def sR(g:Int×Int->Bool)(x:Int)(l:List Int):Int×Int->Bool:=l.foldl (λg y=>gK g (gR x y) false) g
theorem zS{g:Int×Int->Bool}{x:Int}{l:List Int}{k:Int×Int}:sR g x l k=true ↔ g k=true/\∀y∈l,k≠gR x y:=by
 induction l generalizing g with
 | nil=>simp[sR]
 | cons y l ih=>
  have b:sR g x (y::l)=sR (gK g (gR x y) false) x l:=rfl;rw[b,ih];unfold gK;by_cases a:k=gR x y
  ·simp[a]
  ·simp[a]
theorem Fa(g:Int×Int->Bool)(x:Int)(l:List Int)(y:Int):sR g x (l++ [y])=gK (sR g x l) (gR x y) false:=by simp[sR]
theorem KK{g:Int×Int->Bool}(i:vu g)(x:Int):sR g x (qe g x)=wo g [x]:=by
 funext k;rw[Bool.eq_iff_iff,zS,rZ];refine and_congr_right λd=>?_;have l:=i k d;simp only[de];constructor
 ·intro e;refine⟨λb=>?_,λb=>?_⟩
  ·have c:k=gR x k.2:=by
     rcases fU x k.2 with⟨a,_⟩|⟨_,a⟩
     ·rw[a,<-b]
     ·omega
   exact e k.2 (gY.2 ⟨by omega,c▸d⟩) c
  ·have c:k=gR x k.1:=by
     rcases fU x k.1 with⟨_,a⟩|⟨a,_⟩
     ·omega
     ·rw[a,<-b]
   exact e k.1 (gY.2 ⟨by omega,c▸d⟩) c
 ·rintro ⟨f,h⟩ j _ b;rcases fU x j with⟨a,_⟩|⟨a,_⟩
  ·exact f (by rw[b,a])
  ·exact h (by rw[b,a])
/-! ### who is told -/
def yn(t l:List Int):List Int:=l.filter λy=> !t.contains y
def dc(g:Int×Int->Bool)(x:Int):Nat->List Int
 | 0=>qe g x
 | i+1=>match (dc g x i)[i]? with
  | some y=>dc g x i++yn (dc g x i) (qe (wo g (x::(dc g x i).take i)) y)
  | none=>dc g x i
def qY(g:Int×Int->Bool)(x:Int):List Int:=dc g x 99
theorem qF{t l:List Int}{y:Int}:y∈yn t l ↔ y∈l/\y∉t:=by simp[yn]
structure Told (g:Int×Int->Bool) (x:Int) (l:List Int):Prop where
 nodup:l.Nodup
 self:x∉l
 rng:∀y∈l,1<=y/\y<=99
 from':∀i y,l[i]?=some y->∃k∈x::l.take i,y∈qe g k
theorem yr{t l:List Int}(c:t.Nodup)(d:l.Nodup)(e:∀y∈l,y∉t):(t++l).Nodup:=by
 rw[eI];exact⟨c,d,λh f b g a=>e b g (a▸f)⟩
theorem sD{l:List Int}{i:Nat}{y:Int}(c:l.Nodup)(g:l[i]?=some y):y∉l.take i:=by
 intro f;obtain⟨h,d,a⟩:=List.getElem_of_mem f;rw[dy]at d;rw[List.getElem_take]at a;obtain⟨e,b⟩:=aR.1 g;exact(List.pairwise_iff_getElem.1 c) h i (by omega) e (by omega) (a.trans b.symm)
theorem iG{g:Int×Int->Bool}(e:vu g)(x:Int):∀i,Told g x (dc g x i)
 | 0=>⟨ou g x,AO e x,λy c=>(gY.1 c).1,λi y c=>⟨x,by simp,aG c⟩⟩
 | i+1=>by
  have ih:=iG e x i;unfold dc;split
  ·rename_i y c;refine⟨yr ih.nodup ((ou _ _).sublist List.filter_sublist) λd b=>(qF.1 b).2,?_,?_,?_⟩
   ·intro a;rcases cR.1 a with a|a
    ·exact ih.self a
    ·have:=(J5.1 (gY.1 (qF.1 a).1).2).2.2;simp at this
   ·intro d b;rcases cR.1 b with a|a
    ·exact ih.rng d a
    ·exact(gY.1 (qF.1 a).1).1
   ·intro j d b;rw[List.getElem?_append]at b;split at b
    ·rename_i h;obtain⟨k,l,m⟩:=ih.from' j d b;refine⟨k,?_,m⟩;rw[jq (by omega)];exact l
    ·rename_i h;have f:=qF.1 (aG b);refine⟨y,?_,gY.2 ⟨(gY.1 f.1).1,(J5.1 (gY.1 f.1).2).1⟩⟩;refine bI _ ?_;rw[List.take_append];refine mr _ ?_;rw[bC (by omega)];exact aG c
  ·exact ih
theorem I1{l:List Int}(a:l.Nodup):∀{r:List Int},(∀y∈l,y∈r)->l.length<=r.length:=by
 induction l with
 | nil=>simp
 | cons y l ih=>
  intro r b;rw[kp]at a;have c:=b y (by simp);have:=ih a.2 (r:=r.erase y) λe d=>(List.mem_erase_of_ne (λf:e=y=>a.1 (f▸d))).2 (b e (by simp[d]));rw[List.length_erase_of_mem c]at this;have:=List.length_pos_of_mem c;simp;omega
theorem Told.le{g:Int×Int->Bool}{x:Int}{l:List Int}(a:Told g x l):l.length<=99:=by
 have:=I1 a.nodup (r:=pO) λc b=>AH.2 (a.rng c b);rwa [nL]at this
theorem pY{g:Int×Int->Bool}{x:Int}{i:Nat}(a:(dc g x i).length<=i):∀j,dc g x (i+j)=dc g x i
 | 0=>rfl
 | j+1=>by
  have ih:=pY a j;have:dc g x (i+j+1)=dc g x (i+j):=by
   rw[dc];rw[ek (by rw[ih];omega)]
  rw[<-Nat.add_assoc,this,ih]
theorem GC{g:Int×Int->Bool}(e:vu g){x:Int}{i:Nat}(d:(dc g x i).length<=i):dc g x i=qY g x:=by
 unfold qY;rcases Nat.le_total i 99 with a|a
 ·obtain⟨b,c⟩:=Nat.le.dest a;rw[<-c,pY d b]
 ·obtain⟨b,rfl⟩:=Nat.le.dest a;exact pY ((iG e x 99).le) b
theorem mX{g:Int×Int->Bool}(a:vu g)(x:Int):Told g x (qY g x):=iG a x 99
theorem Ev{x y a v:Int}:gR a v=gR x y ↔ (a=x/\v=y)\/(a=y/\v=x):=by
 rcases fU x y with⟨b,d⟩|⟨b,d⟩<;>rcases fU a v with⟨c,e⟩|⟨c,e⟩<;>(rw[b,c];simp only[fM];omega)
theorem vu.link{g:Int×Int->Bool}(d:vu g){x y:Int}(f:1<=x/\x<=99)(h:1<=y/\y<=99)(e:x≠y):vu (gK g (gR x y) true):=by
 intro k a;unfold gK at a;split at a
 ·rename_i c;rcases fU x y with⟨b,_⟩|⟨b,_⟩<;>(rw[c,b];simp;omega)
 ·exact d k a
theorem Gd(i:Nat)(a:i<99):pO.take (i+1)=pO.take i++ [(i:Int)+1]:=by
 rw[dz,Je i a];rfl
def qK(g:Int×Int->Bool)(x:Int)(i:Nat):List Int:=(pO.take i).filter λy=>g (gR x y)
theorem FS(g:Int×Int->Bool)(x:Int)(i:Nat)(a:i<99):qK g x (i+1)=qK g x i++if g (gR x ((i:Int)+1))then [(i:Int)+1]else []:=by
 rw[qK,Gd i a,List.filter_append,List.filter_cons,List.filter_nil];rfl
theorem I4(g:Int×Int->Bool)(x:Int):qK g x 99=qe g x:=by
 rw[qK,bC (by rw[nL];exact ak _)];rfl
theorem AP(g:Int×Int->Bool)(x:Int)(i:Nat):(qK g x i).length<=i:=by
 have:=List.length_filter_le (λa=>g (gR x a)) (pO.take i);rw[dy]at this;unfold qK;omega
theorem FO(t l:List Int)(y:Int)(b:y∉l):yn t (l++ [y])=yn t l++if (t++yn t l).contains y then []else [y]:=by
 unfold yn;rw[List.filter_append,List.filter_cons,List.filter_nil];have a:(t++l.filter λy=> !t.contains y).contains y=t.contains y:=by
  rw[Bool.eq_iff_iff];simp[b]
 rw[a];cases t.contains y<;>rfl
end Go.Proofs.YtckamaoibonjcaaGreat
